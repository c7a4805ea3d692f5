import PyProof.Rows.All
import Wide.All
import OpenK.AllK
import Wide.FinOn
import HandS.ForMost
import HandS.Codes
import HandS.IsInst
import HandS.Property
import HandS.Star
import HandS.Gcd
import HandS.Defaults
import HandS.OwnEq
import HandS.SlotsOwn
import HandS.Strs
import KE.KCallOwn
import PySem.Challenge.RW_waitworks_k02_rows_made
set_option Elab.async false
set_option maxRecDepth 100000
set_option autoImplicit false
namespace My
open PySem PySem.Spec PyProof.Rows L2
/-! ## general: either of two readings; defs and methods as one fact each; heaps -/
section
variable {X : Cx}
/-- either of two readings of an expression -/
theorem pe_alt {e : Expr} {t1 t2 : TE} (h1 : PE X e t1) (h2 : PE X e t2) : PE X e (fun σ H Q => t1 σ H Q ∨ t2 σ H Q) :=
  ⟨fun pins s σ H Q I h => h.elim (h1.run pins s σ H Q I) (h2.run pins s σ H Q I)⟩
theorem pi_alt {g e : Expr} {t1 t2 : TI} (h1 : PI X g e t1) (h2 : PI X g e t2) : PI X g e (fun σ H R => t1 σ H R ∨ t2 σ H R) :=
  ⟨fun pins s σ H R I h => h.elim (h1.run pins s σ H R I) (h2.run pins s σ H R I)⟩
theorem pss_alt {ss : List Stmt} {t1 t2 : TS} (h1 : PSs X ss t1) (h2 : PSs X ss t2) : PSs X ss (fun D σ H => t1 D σ H ∨ t2 D σ H) :=
  ⟨fun pins s σ H D I h => h.elim (h1.run pins s σ H D I) (h2.run pins s σ H D I)⟩
end
section
variable {P : Program} {w : World} {K : PySem.W.Frag} {mg : Str → Option Value} {base : Heap}
/-- the module's name x is a def that keeps a promise -/
structure Own (P : Program) (w : World) (K : PySem.W.Frag) (mg : Str → Option Value) (base : Heap) (x : Str) (k : Nat) (ps : List Str) (sp : Sp) : Prop where
  ex : ∃ f fd, FnOk P w K mg base CX0 k f fd ps sp ∧ mg x = some (.ref f) ∧ PySem.W.keepIn K (.ref f) = true ∧ Binds K fd ps []
/-- the module's name x is the def st -/
structure Df (K : PySem.W.Frag) (mg : Str → Option Value) (x : Str) (st : Stmt) (ps : List Str) : Prop where
  ex : ∃ f fd, Fun K x x st f fd ∧ mg x = some (.ref f) ∧ Binds K fd ps []
theorem Df.own {x : Str} {st : Stmt} {ps N : List Str} {k : Nat} {sp : Sp} (D : Df K mg x st ps) (S : FnScope N ps (defScope st)) (len : ∀ vs H Q E, sp vs H Q E → vs.length = ps.length)
    (hbody : ∀ (f : Addr) (cdv : Value) (A : Around) (outer : List Env) (s : Shared) (H : Hp) (vs : List V) (Q : VK) (E : XK), Room k (A.deeper (envOfC x (defScope st) s.heap.objs.size f cdv)) → sp vs H Q E →
      ∃ t, PSs (cxOf CX0 P w K mg base N x (defScope st) f cdv A outer s H E).nox (defBody st) t ∧ t { nx := fun _ H' => Q .non H', rt := Q } (start N vs) H) : Own P w K mg base x (k + 1) ps sp := by
  obtain ⟨f, fd, F, m, b⟩ := D.ex
  exact ⟨f, fd, F.ok S len (hbody f), m, F.kp, b⟩
theorem Own.imp {x : Str} {k j : Nat} {ps : List Str} {sp sp' : Sp} (O : Own P w K mg base x k ps sp) (hk : k ≤ j) (h : ∀ vs H Q E, sp' vs H Q E → sp vs H Q E) : Own P w K mg base x j ps sp' := by
  obtain ⟨f, fd, F, r⟩ := O.ex
  exact ⟨f, fd, (F.mono hk).imp h, r⟩
/-- a method of the class at C -/
structure Mth (P : Program) (w : World) (K : PySem.W.Frag) (mg : Str → Option Value) (base : Heap) (C : Addr) (m : Str) (k : Nat) (ps : List Str) (sp : Sp) : Prop where
  ex : ∃ f fd, FnOk P w K mg base CX0 k f fd ps sp ∧ Meth K C m f ∧ Binds K fd ps []
structure Prp (P : Program) (w : World) (K : PySem.W.Frag) (mg : Str → Option Value) (base : Heap) (C : Addr) (m : Str) (k : Nat) (ps : List Str) (sp : Sp) : Prop where
  ex : ∃ p f fd, FnOk P w K mg base CX0 k f fd ps sp ∧ PropOf K C m p f ∧ Binds K fd ps []
/-- the module's name x is a class whose __init__ keeps a promise -/
structure Mks (P : Program) (w : World) (K : PySem.W.Frag) (mg : Str → Option Value) (base : Heap) (x : Str) (C : Addr) (k : Nat) (ps : List Str) (sp : Sp) : Prop where
  ex : ∃ f fd, FnOk P w K mg base CX0 k f fd ps sp ∧ mg x = some (.ref C) ∧ Mk K C f ∧ Binds K fd ps []
end
section
variable {X : Cx} {x m : Str} {p pos apos : Pos} {e o : Expr} {es : List Expr} {t : TA} {ta : TE} {k : Nat} {ps : List Str} {sp : Sp} {C : Addr}
theorem pe_own (O : Own X.prog X.w X.K X.mg X.base x k ps sp) (hr : Room k X.A) (ha : PA X (e :: es) t) (hg : Gl X x := by exact rfl) (hdb : (x == ("__debug__" : Str)) = false := by decide)
    (he : starEach (e :: es) X.env = (false, eval e X.env) :: starEach es X.env := by rfl) (hpl : (backTo pos (starEach es X.env)).any (·.1) = false := by rfl) : PE X (.Call (.Name x p) (e :: es) [] pos) (tCall sp [] E0 t) := by
  obtain ⟨f, fd, G, hm, hk, hb⟩ := O.ex
  exact pe_call G hr hg hm hk hb .nil pass0 ha hdb he hpl
theorem pe_own0 (O : Own X.prog X.w X.K X.mg X.base x k ps sp) (hr : Room k X.A) (hg : Gl X x := by exact rfl) (hdb : (x == ("__debug__" : Str)) = false := by decide) : PE X (.Call (.Name x p) [] [] pos) (tCall sp [] E0 tNil) := by
  obtain ⟨f, fd, G, hm, hk, hb⟩ := O.ex
  exact pe_call0 G hr hg hm hk hb .nil pass0 hdb
theorem pe_mks (O : Mks X.prog X.w X.K X.mg X.base x C k ps sp) (hr : Room (k + 1) X.A) (ha : PA X (e :: es) t) (hg : Gl X x := by exact rfl) (hdb : (x == ("__debug__" : Str)) = false := by decide)
    (he : starEach (e :: es) X.env = (false, eval e X.env) :: starEach es X.env := by rfl) (hpl : (backTo pos (starEach es X.env)).any (·.1) = false := by rfl) : PE X (.Call (.Name x p) (e :: es) [] pos) (tMake C sp [] E0 t) := by
  obtain ⟨f, fd, G, hm, M, hb⟩ := O.ex
  exact pe_make M G hr hg hm hb .nil pass0 ha hdb he hpl
theorem pe_mth (c : Cls X.K C) (O : Mth X.prog X.w X.K X.mg X.base C m k ps sp) (hr : Room k X.A) (he : PE X o ta) (ha : PA X (e :: es) t)
    (hst : starEach (e :: es) X.env = (false, eval e X.env) :: starEach es X.env := by rfl) (hpl : (backTo pos (starEach es X.env)).any (·.1) = false := by rfl)
    {pl : Sem Bool} (ht : eval (.Call (.Attribute o m apos) (e :: es) [] pos) X.env = (do
      let ov ← eval o X.env
      standAt apos.atName
      let (f, first) ← holding [ov] (getMethod ov m pl)
      callWith pos f first (backTo pos (starEach (e :: es) X.env)) (backToKw pos (keywordEach [] X.env))) := by rfl) : PE X (.Call (.Attribute o m apos) (e :: es) [] pos) (tMeth C m sp [] E0 ta t) := by
  obtain ⟨f, fd, G, M, hb⟩ := O.ex
  exact pe_meth he c M G hr hb .nil pass0 ha hst hpl ht
theorem pe_prp (c : Cls X.K C) (O : Prp X.prog X.w X.K X.mg X.base C m k ps sp) (hr : Room (k + 1) X.A) (he : PE X o ta) (hab : attributeBase o m X.env (eval o X.env) = eval o X.env := by rfl) : PE X (.Attribute o m pos) (tProp C sp [] E0 ta) := by
  obtain ⟨q, f, fd, G, M, hb⟩ := O.ex
  exact pe_prop he c M G hr hb .nil pass0 hab
end
/-! ## heaps -/
theorem same_upd {H : Hp} {p : Addr} {o : HO} (h : H p = none) : Same H (upd H p o) := fun b x e => by
  rw [upd_ne (ne_of_none e h)]
  exact e
theorem _root_.L2.Same.seqT {K : PySem.W.Frag} {H H' : Hp} {a : Addr} {xs : List V} (e : Same H H') (h : SqT K H a xs) : SqT K H' a xs := by
  rcases h with (h | ⟨o, h⟩) | h
  · exact .inl (.inl (e _ _ h))
  · exact .inl (.inr ⟨o, e _ _ h⟩)
  · exact .inr h
theorem new_lst {Q : VK} {xs : List V} {H : Hp} (hl : xs.length ≤ sizeLine) (h : ∀ p H', Same H H' → H p = none → H' p = some (.lst xs) → Q (.ref p) H') : xs.length ≤ sizeLine ∧ ∀ p, H p = none → Q (.ref p) (upd H p (.lst xs)) :=
  ⟨hl, fun p hp => h p _ (same_upd hp) hp upd_same⟩
theorem new_tup {Q : VK} {xs : List V} {H : Hp} (hl : xs.length ≤ sizeLine) (h : ∀ p H', Same H H' → H p = none → H' p = some (.tup xs) → Q (.ref p) H') : xs.length ≤ sizeLine ∧ ∀ p, H p = none → Q (.ref p) (upd H p (.tup xs)) :=
  ⟨hl, fun p hp => h p _ (same_upd hp) hp upd_same⟩
theorem new_o {Q : VK} {o : HO} {H : Hp} (h : ∀ p H', Same H H' → H p = none → H' p = some o → Q (.ref p) H') : ∀ p, H p = none → Q (.ref p) (upd H p o) :=
  fun p hp => h p _ (same_upd hp) hp upd_same
end My
namespace My
open PySem PySem.Spec PyProof.Rows L2
/-! ## readings in one step -/
theorem rd_isi {K : PySem.W.Frag} {H : Hp} {Q : VK} {x : V} {m : String} (n : String) (b : Bool) (ty : TyX K H x (.type n)) (h : kitB n m = some b) (q : Q (.bl b) H) : rIsi K [x, .ty m] H Q :=
  ⟨_, _, _, _, _, rfl, .ty _, ty, kit_ty h, q⟩
theorem rd_isi2 {K : PySem.W.Frag} {H : Hp} {Q : VK} {x : V} {m m' : String} {tp : Addr} (n : String) (b b' : Bool) (ht : H tp = some (.tup [.ty m, .ty m'])) (ty : TyX K H x (.type n)) (h : kitB n m = some b) (h' : kitB n m' = some b') (q : Q (.bl (b || b')) H) : rIsiT K [x, .ref tp] H Q :=
  ⟨_, _, _, _, _, _, rfl, ht, .cons (.ty _) (.cons (.ty _) .nil), ty, kitAny_cons (kit_ty h) (fun e => kitAny_cons (r := b || b') (kit_ty h') (fun e' => by rw [e, e']; rfl) (fun e' => by rw [e, e']; rfl)) (fun e => by rw [e]; rfl), q⟩
end My
namespace My
open PySem PySem.Spec PyProof.Rows L2
/-! ## a list or a tuple -/
def SqS (K : PySem.W.Frag) (H : Hp) (a : Addr) (xs : List V) : Prop := SqL K H a xs ∨ SqT K H a xs
theorem _root_.L2.Same.sqs {K : PySem.W.Frag} {H H' : Hp} {a : Addr} {xs : List V} (e : Same H H') (h : SqS K H a xs) : SqS K H' a xs := h.imp e.seq e.seqT
/-- how a walk over such a thing goes, as long as what is tracked in H0 stands -/
structure SeqIt (H0 : Hp) (xs : List V) (J : It) : Prop where
  go : ∀ i H, Same H0 H → i < xs.length → J.go i H
  yld : ∀ i H x H', Same H0 H → J.yld i H x H' → H' = H ∧ xs[i]? = some x
  stop : ∀ i H, Same H0 H → xs.length ≤ i → J.stop i H
theorem seqIt_l {K : PySem.W.Frag} {H0 : Hp} {a : Addr} {xs : List V} (h : SqL K H0 a xs) : SeqIt H0 xs (Itl K a) :=
  ⟨fun i H s l => ⟨xs, xs[i], s.seq h, by simp [l]⟩, fun i H x H' s y => ⟨y.1, y.2 xs (s.seq h)⟩, fun i H s l => ⟨xs, s.seq h, l⟩⟩
theorem seqIt_t {K : PySem.W.Frag} {H0 : Hp} {a : Addr} {xs : List V} (h : SqT K H0 a xs) : SeqIt H0 xs (Itt K a) :=
  ⟨fun i H s l => ⟨xs, xs[i], s.seqT h, by simp [l]⟩, fun i H x H' s y => ⟨y.1, y.2 xs (s.seqT h)⟩, fun i H s l => ⟨xs, s.seqT h, l⟩⟩
theorem seq_pi {K : PySem.W.Frag} {a : Addr} {xs : List V} {i : Nat} {σ : L2.St} {H : Hp} {R : It → Hp → Prop} (h : SqS K H a xs) (hv : σ[i]? = some (some (.ref a))) (hR : ∀ J, SeqIt H xs J → R J H) : iList K (tVar i) σ H R ∨ iTup K (tVar i) σ H R :=
  h.elim (fun h => Or.inl ⟨_, hv, a, rfl, ⟨_, h⟩, hR _ (seqIt_l h)⟩) fun h => Or.inr ⟨_, hv, a, rfl, ⟨_, h⟩, hR _ (seqIt_t h)⟩
theorem for_seq {J : It} {H0 : Hp} {xs : List V} {g : TG} {tb : TS} {D : Ends} {σ : L2.St} {H : Hp} (hJ : SeqIt H0 xs J) (Pv : Nat → L2.St → Hp → Prop) (h0 : Pv 0 σ H) (hl : ∀ i σ H, Pv i σ H → Same H0 H)
    (hs : ∀ i x σ H, xs[i]? = some x → Pv i σ H → g x σ H fun σ2 H2 => tb { D with nx := Pv (i + 1), ct := Pv (i + 1), bk := D.nx } σ2 H2) (hd : ∀ σ H, Pv xs.length σ H → D.nx σ H) :
    ∃ W : Nat → Nat → L2.St → Hp → Prop, (∃ m, W 0 m σ H) ∧ ∀ i m σ H, W i m σ H →
      (J.stop i H ∧ D.nx σ H) ∨ (J.go i H ∧ ∃ N : L2.St → Hp → Prop, (∀ σ' H', N σ' H' → ∃ m', m' < m ∧ W (i + 1) m' σ' H') ∧ ∀ x H', J.yld i H x H' → g x σ H' fun σ2 H2 => tb { D with nx := N, ct := N, bk := D.nx } σ2 H2) := by
  refine ⟨fun i m σ H => m + i = xs.length ∧ Pv i σ H, ⟨xs.length, by omega, h0⟩, fun i m σ H q => ?_⟩
  obtain ⟨em, p⟩ := q
  have s := hl i σ H p
  by_cases hlt : i < xs.length
  · refine Or.inr ⟨hJ.go i H s hlt, Pv (i + 1), fun σ' H' p' => ⟨m - 1, by omega, by omega, p'⟩, fun x H' y => ?_⟩
    obtain ⟨rfl, e⟩ := hJ.yld i H x H' s y
    exact hs i x _ _ e p
  · have e : i = xs.length := by omega
    subst e
    exact Or.inl ⟨hJ.stop _ H s (Nat.le_refl _), hd _ _ p⟩
theorem lc_seq {J : It} {H0 : Hp} {xs : List V} {g : TG} {tt : TT} {te : TE} {vs : List Nat} {σ : L2.St} {H1 : Hp} {D : Addr} {Qd : Hp → Prop} (hJ : SeqIt H0 xs J) (Pv : Nat → Hp → Prop) (h0 : Pv 0 (upd H1 D (.lst []))) (hl : ∀ i H, Pv i H → Same H0 H)
    (hs : ∀ i x H, xs[i]? = some x → Pv i H → g x (wipe σ vs) H fun σ2 H2 => wipe σ2 vs = wipe σ vs ∧ tt σ2 H2 fun b H3 =>
      if b = true then te σ2 H3 fun y H4 => ∃ acc, H4 D = some (.lst acc) ∧ acc.length < sizeLine ∧ Pv (i + 1) (upd H4 D (.lst (acc ++ [y]))) else Pv (i + 1) H3) (hd : ∀ H, Pv xs.length H → Qd H) :
    ∃ W : Nat → Nat → Hp → Prop, (∃ m, W 0 m (upd H1 D (.lst []))) ∧ ∀ i m H, W i m H →
      (J.stop i H ∧ Qd H) ∨ (J.go i H ∧ ∃ Nx : Hp → Prop, (∀ H', Nx H' → ∃ m', m' < m ∧ W (i + 1) m' H') ∧ ∀ x H', J.yld i H x H' → g x (wipe σ vs) H' fun σ2 H2 => wipe σ2 vs = wipe σ vs ∧ tt σ2 H2 fun b H3 =>
        if b = true then te σ2 H3 fun y H4 => ∃ acc, H4 D = some (.lst acc) ∧ acc.length < sizeLine ∧ Nx (upd H4 D (.lst (acc ++ [y]))) else Nx H3) := by
  refine ⟨fun i m H => m + i = xs.length ∧ Pv i H, ⟨xs.length, by omega, h0⟩, fun i m H q => ?_⟩
  obtain ⟨em, p⟩ := q
  have s := hl i H p
  by_cases hlt : i < xs.length
  · refine Or.inr ⟨hJ.go i H s hlt, Pv (i + 1), fun H' p' => ⟨m - 1, by omega, by omega, p'⟩, fun x H' y => ?_⟩
    obtain ⟨rfl, e⟩ := hJ.yld i H x H' s y
    exact hs i x _ e p
  · have e : i = xs.length := by omega
    subst e
    exact Or.inl ⟨hJ.stop _ H s (Nat.le_refl _), hd _ p⟩
theorem new_facts {H H1 : Hp} {p : Addr} {o : HO} (hp : H p = none) (hq : upd H p o = H1) : Same H H1 ∧ H1 p = some o := by
  subst hq
  exact ⟨same_upd hp, upd_same⟩
theorem _root_.L2.Same.upd1 {H0 H : Hp} {p : Addr} {o : HO} (s : Same H0 H) (hp : H0 p = none) : Same H0 (upd H p o) := fun b x e => by
  rw [upd_ne (ne_of_none e hp)]
  exact s _ _ e
end My

namespace MyN
open PySem PySem.Spec PyProof.Rows
section
variable {prog : Program} {w : World} {A : Around} {E : Value → Shared → Prop} {s : Shared} {K : PySem.W.Frag} {x C L f : Addr} {h₀ : Heap} {m : Str → Option Value} {ox : Obj} {od : Option Obj} {b tb : Value}
open Builtin in
theorem ne_body {Q : Fin → Shared → Prop} (hu : A.units < cLine) (X : K.In s.heap) (I : PySem.W.InstAt s.heap x ox C od) (hs : PySem.W.findIn K (.ref C) "__eq__" = some (some (.ref f))) (hf : PySem.W.isFn K (.ref f) = true)
    (h : wpAny (model prog w) A (call (.ref f) [.ref x, b]) (fun v s' => ∃ r, v = .bool r ∧ Q (.done (.ret (.bool (!r)))) s') E s) : wpAny (model prog w) A (Builtin.«object.__ne__» ⟨[.ref x, b], []⟩) Q E s := by
  unfold Builtin.«object.__ne__»
  repeat (first
    | with_reducible refine wpAny_cRoomFor hu ?_
    | (refine wpAny_bind (m := callSpecialIfBound? (.ref x) (Str.ofString "__eq__") [b])
        (PySem.W.ifBound_K X I hs hf (wpAny_mono h (fun r s' hr => by
          obtain ⟨b, rfl, hq⟩ := hr
          repeat (first | exact hq | exact wpAny_pure hq | exact wpAny_truthy_bool hq | (refine wpAny_bind (m := truthy (.bool _)) (wpAny_truthy_bool ?_)) | wp_step)) fun _ _ e => e)))
    | wp_step)
theorem call_objNe {Q : Value → Shared → Prop} (hu : A.in1.units < cLine) (X : K.In s.heap) (I : PySem.W.InstAt s.heap x ox C od) (hm : PySem.W.mroIn K C (.type "object") = some true) (hs : PySem.W.findIn K (.ref C) "__eq__" = some (some (.ref f))) (hf : PySem.W.isFn K (.ref f) = true)
    (h : wpAny (model prog w) A.in1 (call (.ref f) [.ref x, b]) (fun v s' => ∃ r, v = .bool r ∧ Q (.bool (!r)) s') E s) :
    wpAny (model prog w) A (call (.builtin "object.__ne__") [.ref x, b]) Q E s :=
  wpAny_call (codeAny_call_builtin F.cmp_object.ne.plain F.cmpEntry_ne (PySem.W.check_slot F.cmpKind_ne F.cmpSplit_ne (I.type.andThen (PySem.W.looks_mroIn X hm)) (F.cmpArgs_ne _ _) (ne_body hu X I hs hf h)))
theorem ifBound_objNe {M : Model} {args : List Value} {Q : Option Value → Shared → Prop} (X : K.In s.heap) (I : PySem.W.InstAt s.heap x ox C od) (hs : PySem.W.findIn K (.ref C) "__ne__" = some (some (.builtin "object.__ne__")))
    (h : wpAny M A (call (.builtin "object.__ne__") (.ref x :: args)) (fun v => Q (some v)) E s) : wpAny M A (callSpecialIfBound? (.ref x) "__ne__" args) Q E s := by
  simp only [callSpecialIfBound?, bindSpecialIfBound?]
  refine wpAny_holding (wpAny_bind (wpAny_bind (wpAny_bind (I.type.here ((PySem.W.looks_findIn X hs).here ?_)))))
  refine wpAny_bind (wpAny_askSetting (wpAny_ite ?_))
  have fin : wpAny M A (call (.builtin "object.__ne__") ([.ref x] ++ args) >>= fun v => pure (some v)) Q E s := wpAny_bind (wpAny_mono h (fun v s' h' => wpAny_pure h') fun _ _ h' => h')
  split
  · exact wpAny_bind (wpAny_of_eq (F.cmp_object.ne.bind _) (wpAny_pure (by exact fin)))
  · exact wpAny_tryCatch (wpAny_bind (wpAny_of_eq (F.cmp_object.ne.bind _) (wpAny_pure (by exact fin))))
theorem ne_K {Q : Value → Shared → Prop} (hu : A.units < cLine) (hu1 : A.in1.units < cLine) (F : Fr h₀ L s.heap m) (X₀ : K.In h₀) (I : PySem.W.InstAt s.heap x ox C od) (hb : PySem.W.Looks (model prog w) s.heap (typeOf b) tb) (hn : PySem.W.notFirst K C tb = true)
    (hm : PySem.W.mroIn K C (.type "object") = some true) (hne : PySem.W.findIn K (.ref C) "__ne__" = some (some (.builtin "object.__ne__"))) (hs : PySem.W.findIn K (.ref C) "__eq__" = some (some (.ref f))) (hf : PySem.W.isFn K (.ref f) = true)
    (h : wpAny (model prog w) A.in1 (call (.ref f) [.ref x, b]) (fun v s' => ∃ r, v = .bool r ∧ Q (.bool (!r)) s') E s) : wpAny (model prog w) A (richCompare .NotEq (.ref x) b) Q E s := by
  have X := X₀.keeps F.keep
  have one : wpAny (model prog w) A (tryCompare (.ref x) "__ne__" b) (fun r s' => ∃ v, r = some v ∧ Q v s') E s := by
    unfold tryCompare
    refine wpAny_bind (ifBound_objNe X I hne (call_objNe hu1 X I hm hs hf (wpAny_mono h (fun v s' hv => ?_) fun _ _ e => e)))
    obtain ⟨r, rfl, q⟩ := hv
    exact ⟨r, rfl, wpAny_pure ⟨_, rfl, q⟩⟩
  unfold richCompare
  simp only [oneThing_ref]
  refine wpAny_holding (wpAny_bind (wpAny_cRoomFor hu ?_))
  rw [cmpInfo_NotEq]
  dsimp only
  refine wpAny_bind (I.type.here (wpAny_bind (hb.here ?_)))
  split
  · rename_i q
    have e : PySem.W.subIn K tb (.ref C) = some false := by
      rcases Bool.or_eq_true_iff.mp hn with e | e
      · rw [beq_iff_eq.mp e] at q; simp at q
      · exact beq_iff_eq.mp e
    refine wpAny_bind ((PySem.W.looks_subIn X e).here ?_)
    simp only [Bool.false_eq_true, if_false]
    refine wpAny_bind (wpAny_mono one (fun r s' z => ?_) fun _ _ e => e)
    obtain ⟨v, rfl, hq⟩ := z
    exact wpAny_pure hq
  · refine wpAny_bind (wpAny_pure ?_)
    simp only [Bool.false_eq_true, if_false]
    refine wpAny_bind (wpAny_mono one (fun r s' z => ?_) fun _ _ e => e)
    obtain ⟨v, rfl, hq⟩ := z
    exact wpAny_pure hq
end
end MyN
namespace My
open PySem PySem.Spec PyProof.Rows L2
section
variable {X : Cx} {n : Nat} {C f : Addr} {fd : FuncData} {ps : List Str} {sp : Sp} {CX : CXT} {E : XK}
/-- the own == is a def that keeps a promise -/
structure EqOwn (X : Cx) (CX : CXT) (n : Nat) (C : Addr) (sp : Sp) (E : XK) : Prop where
  ex : ∃ f fd ps, FnOk X.prog X.w X.K X.mg X.base CX n f fd ps sp ∧ PySem.W.findIn X.K (.ref C) "__eq__" = some (some (.ref f)) ∧ PySem.W.isFn X.K (.ref f) = true ∧ Binds X.K fd ps []
  ne : PySem.W.findIn X.K (.ref C) "__ne__" = some (some (.builtin "object.__ne__"))
  mro : PySem.W.mroIn X.K C (.type "object") = some true
  hx : Passes CX X E
theorem own_run {A : Around} {Q : VK} {pins : List (Addr × Obj)} {σ : L2.St} {H : Hp} {s : Shared} {us : List Value} {vs : List V} (F : FnOk X.prog X.w X.K X.mg X.base CX n f fd ps sp) (hb : Binds X.K fd ps []) (hx : Passes CX X E) (hr : Room n A)
    (e0 : Env0 X.prog X.w X.K X.mg X.base A X.stack s H) (I : Inv X pins σ H s) (r : Vals vs us) (hsp : sp vs H Q E) : wpAny (model X.prog X.w) A (call (.ref f) us) (EP X pins σ Q) X.xe s := by
  have hl := F.len _ _ _ _ hsp
  refine wpAny_call (codeAny_mono (F.run A X.stack s H ⟨us, []⟩ us vs _ E hr e0 (by
    have := hb s us I.kIn (by rw [List.append_nil, ← r.length, hl])
    simpa using this) r hsp) fun r s' hq => ?_)
  cases r with
  | error e => exact hx pins σ H s e s' I hq
  | ok fl =>
    cases fl with
    | ret w => exact I.after hq
    | next => exact False.elim hq
    | brk => exact False.elim hq
    | cont => exact False.elim hq
/-- x == y, x of a class with its own ==, y anything of a known type -/
def rEqOwn (K : PySem.W.Frag) (C : Addr) (sp : Sp) (E : XK) : R2 := fun x y H Q => ∃ a dx fs t, x = .ref a ∧ H a = some (.ins C dx fs) ∧ TyX K H y t ∧ PySem.W.notFirst K C t = true ∧ sp [x, y] H Q E
def rNeOwn (K : PySem.W.Frag) (C : Addr) (sp : Sp) (E : XK) : R2 := fun x y H Q => ∃ a dx fs t, x = .ref a ∧ H a = some (.ins C dx fs) ∧ TyX K H y t ∧ PySem.W.notFirst K C t = true ∧ sp [x, y] H (fun v H' => ∃ r, v = .bl r ∧ Q (.bl (!r)) H') E
theorem op_eqOwn (O : EqOwn X CX n C sp E) (hr : Room n X.A) : OpR X (compareOp .Eq) (rEqOwn X.K C sp E) := by
  intro pins s σ H x y v u Q I rx ry h
  obtain ⟨f, fd, ps, F, hs, hf, hb⟩ := O.ex
  obtain ⟨a, dx, fs, t, rfl, ha, ty, hn, q⟩ := h
  cases (show v = Value.ref a from rx)
  obtain ⟨mA, J, _⟩ := ins_get I.hok ha
  obtain ⟨od, J, _⟩ := J.look
  obtain ⟨P, Z, p, _⟩ := kit_of I ry ty
  obtain ⟨m, hF⟩ := I.fr
  refine PySem.W.cmp_ofEq (PySem.W.cmp_K (op := .Eq) (tb := t) hr.units0 hF I.ok.mod.kin J (Z.ty _ _ I.kIn p) hn hs hf ?_)
  refine wpAny_mono (own_run (vs := [.ref a, y]) F hb O.hx hr I.env0 I (.cons rfl (.cons ry .nil)) q) (fun w s' z => ?_) fun _ _ x => x
  obtain ⟨z', H', I', rz, qz⟩ := z
  exact SlX.cmpback rz ⟨z', H', I', rz, qz⟩
theorem op_neOwn (O : EqOwn X CX n C sp E) (hr : Room (n + 1) X.A) : OpR X (compareOp .NotEq) (rNeOwn X.K C sp E) := by
  intro pins s σ H x y v u Q I rx ry h
  obtain ⟨f, fd, ps, F, hs, hf, hb⟩ := O.ex
  obtain ⟨a, dx, fs, t, rfl, ha, ty, hn, q⟩ := h
  cases (show v = Value.ref a from rx)
  obtain ⟨mA, J, _⟩ := ins_get I.hok ha
  obtain ⟨od, J, _⟩ := J.look
  obtain ⟨P, Z, p, _⟩ := kit_of I ry ty
  obtain ⟨m, hF⟩ := I.fr
  refine PySem.W.cmp_ofNotEq (MyN.ne_K (tb := t) hr.units0 hr.in1.units0 hF I.ok.mod.kin J (Z.ty _ _ I.kIn p) hn O.mro O.ne hs hf ?_)
  refine wpAny_mono (own_run (vs := [.ref a, y]) F hb O.hx hr.in1 I.env0.in1 I (.cons rfl (.cons ry .nil)) q) (fun w s' z => ?_) fun _ _ x => x
  obtain ⟨z', H', I', rz, r, rfl, qz⟩ := z
  cases (show w = Value.bool r from rz)
  exact ⟨r, rfl, .bl (!r), H', I', rfl, qz⟩
/-- str(x), x of a class with its own __str__ -/
def rStrOwn (C : Addr) (sp : Sp) (E : XK) : List V → Hp → VK → Prop := fun xs H Q => ∃ a dx fs, xs = [.ref a] ∧ H a = some (.ins C dx fs) ∧ sp [.ref a] H (fun v H' => ∃ y, v = .str y ∧ Q v H') E
structure StrOwn (X : Cx) (CX : CXT) (n : Nat) (C : Addr) (sp : Sp) (E : XK) : Prop where
  ex : ∃ f fd ps, FnOk X.prog X.w X.K X.mg X.base CX n f fd ps sp ∧ PySem.W.findIn X.K (.ref C) "__str__" = some (some (.ref f)) ∧ PySem.W.isFn X.K (.ref f) = true ∧ Binds X.K fd ps []
  hx : Passes CX X E
theorem call_strOwn (O : StrOwn X CX n C sp E) (hr : Room (n + 2) X.A) : CallR X (.type "str") (rStrOwn C sp E) := by
  intro pins s σ H xs us Q I r h
  obtain ⟨f, fd, ps, F, hs, hf, hb⟩ := O.ex
  obtain ⟨a, dx, fs, rfl, ha, q⟩ := h
  obtain ⟨u, rfl, ru⟩ := r.one
  cases (show u = Value.ref a from ru)
  obtain ⟨mA, J, _⟩ := ins_get I.hok ha
  obtain ⟨od, J, _⟩ := J.look
  have hr2 : Room n X.A.in1.in1 := (show Room (n + 1) X.A.in1 from Room.in1 hr).in1
  refine PySem.W.kso_call hr2.units0 I.kIn J hs hf (wpAny_mono (own_run (vs := [.ref a]) F hb O.hx hr2 I.env0.in1.in1 I (.cons rfl .nil) q) (fun w s' z => ?_) fun _ _ x => x)
  obtain ⟨z', H', I', rz, y, rfl, qz⟩ := z
  obtain ⟨t, e⟩ := (show ∃ t, w = Value.str y t from rz)
  cases e
  exact ⟨.str y, H', I', ⟨t, rfl⟩, qz⟩
end
end My

namespace My
open PySem PySem.Spec PyProof.Rows L2
local macro_rules | `(tactic| walk_at "side") => `(tactic| first | (dsimp only; omega) | exact ⟨by omega, by omega⟩ | exact Or.inl ⟨by omega, by omega⟩ | exact Or.inr ⟨by omega, by omega⟩ | decide)
local macro_rules | `(tactic| walk_at "sq") => `(tactic| first | assumption | exact SqL.of (by assumption) | exact SqT.of (by assumption) | (refine L2.Same.seq (by assumption) ?_; walk_at "sq") | (refine L2.Same.seqT (by assumption) ?_; walk_at "sq") | exact Or.inl (by walk_at "sq") | exact Or.inr (by walk_at "sq"))
local macro_rules | `(tactic| walk_at "1") => `(tactic| first
  | refine ⟨_, rfl, iteT ?_⟩
  | refine ⟨_, rfl, iteF ?_⟩
  | refine ⟨_, rfl, ?_⟩
  | refine ⟨_, _, rfl, rfl, (by walk_at "side"), ?_⟩
  | refine ⟨_, _, rfl, rfl, ?_⟩
  | refine ⟨_, _, _, _, true, rfl, .ty _, .base (.int _), kit_ty (a := "int") (by decide +kernel), ?_⟩
  | refine ⟨_, _, _, _, false, rfl, .ty _, .base (.int _), kit_ty (a := "int") (by decide +kernel), ?_⟩
  | refine ⟨_, _, rfl, (by walk_at "sq"), ?_⟩
  | refine ⟨rfl, ?_⟩
  | refine iteT ?_
  | refine iteF ?_
  | refine Or.inl ⟨_, rfl, ?_⟩)
local macro_rules | `(tactic| walk_at "s") => `(tactic| repeat walk_at "1")
local macro_rules | `(tactic| walk_at "size") => `(tactic| first | exact Nat.le_of_ble_eq_true rfl | (simp only [List.length_map, List.length_append, List.length_cons, List.length_nil]; omega))
local macro_rules | `(tactic| walk_at "new") => `(tactic| (first | refine ⟨(by walk_at "size"), fun p hp => ?_⟩ | refine fun p hp => ?_); (generalize hq : upd _ p _ = H1); (obtain ⟨s, e⟩ := new_facts hp hq); clear hq)
def topS (i : Nat) : Stmt := PySem.Challenge.pw_waitworks_k02_rows_made.main.body.getD i (.Pass ⟨0, 0, 0, 0⟩)
/-- what of the built-in names is still built-in -/
structure Txt (mg : Str → Option Value) : Prop where
  int : mg "int" = none
  len : mg "len" = none
  abs : mg "abs" = none
  bool : mg "bool" = none
  list : mg "list" = none
  tuple : mg "tuple" = none
  range : mg "range" = none
  isinstance : mg "isinstance" = none
  divmod : mg "divmod" = none
  max : mg "max" = none
  min : mg "min" = none
  repr : mg "repr" = none
/-- a time or nothing as a value -/
def ov : Option Int → V
  | none => .non
  | some i => .int i
theorem ov_non (t : Option Int) : decide (ov t = .non) = t.isNone := by cases t <;> rfl
section
variable {P : Program} {w : World} {K : PySem.W.Frag} {mg : Str → Option Value} {base : Heap}
/-! ### kinds -/
abbrev s_is_integer : Stmt := topS 7
theorem sc_is_integer : FnScope ["value"] ["value"] (defScope s_is_integer) := ⟨rfl, rfl, rfl, by decide +kernel, rfl, by decide +kernel, by decide +kernel⟩
def spIsInt : Sp := fun vs H Q _ => ∃ i : Int, vs = [.int i] ∧ Q (.bl true) H
theorem ok_is_integer (D : Df K mg "is_integer" s_is_integer ["value"]) (T : Txt mg) : Own P w K mg base "is_integer" 1 ["value"] spIsInt := by
  refine D.own sc_is_integer (fun vs H Q E h => ?_) (fun f cdv A outer s H vs Q E hr h => ?_)
  · obtain ⟨i, rfl, _⟩ := h
    rfl
  · obtain ⟨i, rfl, k⟩ := h
    refine ⟨_, (pss_one (ps_ret (pe_and (pe_callB call_isi (by rfl) T.isinstance (by decide +kernel) (pa_cons (pv 0) (pa_cons (pe_bltn (v := .ty "int") (by rfl) T.int (by decide +kernel) rfl) pa_nil))) (pe_one (pe_not (pe_callB call_isi (by rfl) T.isinstance (by decide +kernel) (pa_cons (pv 0) (pa_cons (pe_bltn (v := .ty "bool") (by rfl) T.bool (by decide +kernel) rfl) pa_nil)))))))), ?_⟩
    walk_at "s"
    exact k
abbrev s_is_number : Stmt := topS 8
theorem sc_is_number : FnScope ["value"] ["value"] (defScope s_is_number) := ⟨rfl, rfl, rfl, by decide +kernel, rfl, by decide +kernel, by decide +kernel⟩
def spIsNum : Sp := fun vs H Q _ => ∃ i : Int, vs = [.int i] ∧ Q (.bl (decide (0 ≤ i))) H
theorem ok_is_number (D : Df K mg "is_number" s_is_number ["value"]) (o_is_integer : Own P w K mg base "is_integer" 1 ["value"] spIsInt) : Own P w K mg base "is_number" 2 ["value"] spIsNum := by
  refine D.own sc_is_number (fun vs H Q E h => ?_) (fun f cdv A outer s H vs Q E hr h => ?_)
  · obtain ⟨i, rfl, _⟩ := h
    rfl
  · obtain ⟨i, rfl, k⟩ := h
    refine ⟨_, (pss_one (ps_ret (pe_and (pe_own o_is_integer (hr.mono (by decide)) (pa_cons (pv 0) pa_nil)) (pe_one (pe_cmpR op_ge (pv 0) pe_int (nomark _)))))), ?_⟩
    walk_at "s"
    exact k
abbrev s_is_sequence : Stmt := topS 9
theorem sc_is_sequence : FnScope ["value"] ["value"] (defScope s_is_sequence) := ⟨rfl, rfl, rfl, by decide +kernel, rfl, by decide +kernel, by decide +kernel⟩
/-- what is behind a call that makes things: all that was tracked stands -/
def spIsSeq : Sp := fun vs H Q _ => ∃ (a : Addr) (xs : List V), vs = [.ref a] ∧ (H a = some (.lst xs) ∨ H a = some (.tup xs)) ∧ ∀ H', Same H H' → Q (.bl true) H'
theorem ok_is_sequence (D : Df K mg "is_sequence" s_is_sequence ["value"]) (T : Txt mg) : Own P w K mg base "is_sequence" 1 ["value"] spIsSeq := by
  refine D.own sc_is_sequence (fun vs H Q E h => ?_) (fun f cdv A outer s H vs Q E hr h => ?_)
  · obtain ⟨a, xs, rfl, _⟩ := h
    rfl
  · obtain ⟨a, xs, rfl, hS, k⟩ := h
    refine ⟨_, (pss_one (ps_ret (pe_callB call_isiT (by rfl) T.isinstance (by decide +kernel) (pa_cons (pv 0) (pa_cons (pe_tup (pa_cons (pe_bltn (v := .ty "list") (by rfl) T.list (by decide +kernel) rfl) (pa_cons (pe_bltn (v := .ty "tuple") (by rfl) T.tuple (by decide +kernel) rfl) pa_nil))) pa_nil))))), ?_⟩
    walk_at "s"
    walk_at "new"
    rename_i t nt H1 s1 e1
    rcases hS with hS | hS
    · exact ⟨_, _, _, _, _, _, rfl, e1, .cons (.ty _) (.cons (.ty _) .nil), .base (.lst (s1 _ _ hS)), kitAny_cons (kit_ty (a := "list") (b := "list") (r := true) (by decide +kernel)) (fun z => nomatch z) (fun _ => rfl), k _ s1⟩
    · exact ⟨_, _, _, _, _, _, rfl, e1, .cons (.ty _) (.cons (.ty _) .nil), .base (.tup (s1 _ _ hS)), kitAny_cons (kit_ty (a := "tuple") (b := "list") (r := false) (by decide +kernel)) (fun _ => kitAny_cons (kit_ty (a := "tuple") (b := "tuple") (r := true) (by decide +kernel)) (fun z => nomatch z) (fun _ => rfl)) (fun z => nomatch z), k _ s1⟩
/-! ### rows -/
def risesFrom : Option Int → List (Option Int) → Bool
  | _, [] => true
  | none, t :: r => risesFrom t r
  | some _, none :: _ => false
  | some l, some x :: r => if x < l then false else risesFrom (some x) r
abbrev s_rises : Stmt := topS 14
theorem sc_rises : FnScope ["things", "last", "thing"] ["things"] (defScope s_rises) := ⟨rfl, rfl, rfl, by decide +kernel, rfl, by decide +kernel, by decide +kernel⟩
def spRises (K : PySem.W.Frag) : Sp := fun vs H Q _ => ∃ (a : Addr) (xs : List (Option Int)), vs = [.ref a] ∧ SqS K H a (xs.map ov) ∧ Q (.bl (risesFrom none xs)) H
theorem ok_rises (D : Df K mg "_rises" s_rises ["things"]) (o_is_integer : Own P w K mg base "is_integer" 1 ["value"] spIsInt) : Own P w K mg base "_rises" 2 ["things"] (spRises K) := by
  refine D.own sc_rises (fun vs H Q E h => ?_) (fun f cdv A outer s H vs Q E hr h => ?_)
  · obtain ⟨a, xs, rfl, _⟩ := h
    rfl
  · obtain ⟨a, xs, rfl, hS, k⟩ := h
    refine ⟨_, (pss_cons (ps_set (i := 1) sc_rises.nd rfl (Or.inl rfl) pe_non)
  (pss_cons (ps_for PassesOwn.never rfl (pi_alt (pi_list (pv 0)) (pi_tup (pv 0))) (pg_name (i := 2) sc_rises.nd rfl (Or.inl rfl))
    (pss_one (ps_if (pt_cmpR op_notN (pv 2) pe_non (nomark _))
        (pss_cons (ps_if (PW.pt (pw_or (pt_not (pt_val (pe_own o_is_integer (hr.mono (by decide)) (pa_cons (pv 2) pa_nil)))) (pw_or1 (PW.pt (pw_and (pt_cmpR op_notN (pv 1) pe_non (nomark _)) (pw_and1 (pt_cmpR op_lt (pv 2) (pv 1) (nomark _))))))))
            (pss_one (ps_ret pe_bl))
            pss_nil)
          (pss_one (ps_set (i := 1) sc_rises.nd rfl (Or.inl rfl) (pv 2))))
        (pss_one (ps_if (pt_cmpR op_notN (pv 1) pe_non (nomark _))
            (pss_one (ps_ret pe_bl))
            pss_nil)))))
  (pss_one (ps_ret pe_bl)))), ?_⟩
    refine seq_pi hS rfl fun J hJ => for_seq hJ (fun i σ H' => ∃ (l : Option Int) (y : Option V), σ = [some (.ref a), some (ov l), y] ∧ H' = H ∧ risesFrom l (xs.drop i) = risesFrom none xs)
      ⟨none, none, rfl, rfl, rfl⟩ (fun i σ H' ⟨_, _, _, e, _⟩ => e ▸ Same.refl _) ?_ ?_
    · rintro i x σ H' hi ⟨l, y, rfl, rfl, e⟩
      obtain ⟨t, ht, rfl⟩ : ∃ t, xs[i]? = some t ∧ ov t = x := by simpa using hi
      have hd : xs.drop i = t :: xs.drop (i + 1) := by
        obtain ⟨q, rfl⟩ := List.getElem?_eq_some_iff.mp ht
        exact List.drop_eq_getElem_cons q
      rw [hd] at e
      cases t with
      | none =>
        walk_at "s"
        cases l with
        | none =>
          walk_at "s"
          exact e
        | some l =>
          walk_at "s"
          rw [← e] at k
          exact k
      | some t =>
        walk_at "s"
        cases l with
        | none =>
          walk_at "s"
          exact e
        | some l =>
          walk_at "s"
          refine ite2 (fun c => ?_) (fun c => ?_)
          · have c' : t < l := by simpa using c
            rw [← e, show risesFrom (some l) (some t :: xs.drop (i + 1)) = false from if_pos c'] at k
            exact k
          · have c' : ¬ t < l := by simpa using c
            walk_at "s"
            rw [← e]
            exact (if_neg c').symm
    · rintro σ H' ⟨l, y, rfl, rfl, e⟩
      have ed : xs.drop (xs.map ov).length = [] := List.drop_eq_nil_of_le (by simp)
      rw [ed] at e
      have et : risesFrom l [] = true := by cases l <;> rfl
      rw [← e, et] at k
      exact k
end
end My

namespace My
open PySem PySem.Spec PyProof.Rows L2
local macro_rules | `(tactic| walk_at "side") => `(tactic| first | (dsimp only; omega) | exact ⟨by omega, by omega⟩ | exact Or.inl ⟨by omega, by omega⟩ | exact Or.inr ⟨by omega, by omega⟩ | decide)
local macro_rules | `(tactic| walk_at "sq") => `(tactic| first | assumption | exact SqL.of (by assumption) | exact SqT.of (by assumption) | (refine L2.Same.seq (by assumption) ?_; walk_at "sq") | (refine L2.Same.seqT (by assumption) ?_; walk_at "sq") | exact Or.inl (by walk_at "sq") | exact Or.inr (by walk_at "sq"))
local macro_rules | `(tactic| walk_at "1") => `(tactic| first
  | refine ⟨_, rfl, iteT ?_⟩
  | refine ⟨_, rfl, iteF ?_⟩
  | refine ⟨_, rfl, ?_⟩
  | refine ⟨_, _, rfl, rfl, (by walk_at "side"), ?_⟩
  | refine ⟨_, _, rfl, rfl, ?_⟩
  | refine ⟨_, _, _, _, true, rfl, .ty _, .base (.int _), kit_ty (a := "int") (by decide +kernel), ?_⟩
  | refine ⟨_, _, _, _, false, rfl, .ty _, .base (.int _), kit_ty (a := "int") (by decide +kernel), ?_⟩
  | refine ⟨_, _, rfl, (by walk_at "sq"), ?_⟩
  | refine ⟨_, _, _, _, rfl, rfl, (by walk_at "sq"), (by first | rfl | assumption), ?_⟩
  | refine Or.inl ⟨_, _, _, _, rfl, rfl, (by walk_at "sq"), (by first | rfl | assumption), ?_⟩
  | refine Or.inr (Or.inl ⟨_, _, _, _, rfl, rfl, (by walk_at "sq"), (by first | rfl | assumption), ?_⟩)
  | refine ⟨rfl, ?_⟩
  | refine iteT ?_
  | refine iteF ?_
  | refine Or.inl ⟨_, rfl, ?_⟩)
local macro_rules | `(tactic| walk_at "s") => `(tactic| repeat walk_at "1")
local macro_rules | `(tactic| walk_at "size") => `(tactic| first | exact Nat.le_of_ble_eq_true rfl | (simp only [List.length_map, List.length_append, List.length_cons, List.length_nil]; omega))
local macro_rules | `(tactic| walk_at "new") => `(tactic| (first | refine ⟨(by walk_at "size"), fun p hp => ?_⟩ | refine fun p hp => ?_); (generalize hq : upd _ p _ = H1); (obtain ⟨s, e⟩ := new_facts hp hq); clear hq)

def SqH (H : Hp) (a : Addr) (xs : List V) : Prop := H a = some (.lst xs) ∨ H a = some (.tup xs)
theorem SqH.sqs {K : PySem.W.Frag} {H : Hp} {a : Addr} {xs : List V} (h : SqH H a xs) : SqS K H a xs := h.imp SqL.of SqT.of
theorem _root_.L2.Same.sqh {H H' : Hp} {a : Addr} {xs : List V} (e : Same H H') (h : SqH H a xs) : SqH H' a xs := h.imp (e _ _) (e _ _)
/-- a row's arguments as they should be -/
structure OkRow (f a : List (Option Int)) (m : Int) : Prop where
  rf : risesFrom none f = true
  ra : risesFrom none a = true
  ne : a ≠ []
  ct : (∃ lo hi : Int, a.head? = some (some lo) ∧ a.getLast? = some (some hi) ∧ (∀ e, f.getLast? = some (some e) → e ≤ lo) ∧ 0 ≤ m ∧ hi - lo ≤ m) ∨
    (a.head? = some none ∧ a.getLast? = some none ∧ (f.getLast? = none ∨ f.getLast? = some none) ∧ m = 0)
theorem atI_neg1 {α : Type} {xs : List α} {v : α} (h : xs.getLast? = some v) : atI xs (-1) = some v := by
  obtain ⟨ys, rfl⟩ := List.getLast?_eq_some_iff.mp h
  exact atI_last ys v
theorem atI_head {α : Type} {xs : List α} {v : α} (h : xs.head? = some v) : atI xs 0 = some v := by
  cases xs with
  | nil => cases h
  | cons x r =>
    cases h
    exact atI_nat (j := 0) rfl
theorem last_map (xs : List (Option Int)) : (xs.map ov).getLast? = xs.getLast?.map ov := by simp
theorem head_map (xs : List (Option Int)) : (xs.map ov).head? = xs.head?.map ov := by simp
section
variable {P : Program} {w : World} {K : PySem.W.Frag} {mg : Str → Option Value} {base : Heap}
abbrev s_wrong_argument : Stmt := topS 15
theorem sc_wrong_argument : FnScope ["first", "again", "more", "end"] ["first", "again", "more"] (defScope s_wrong_argument) := ⟨rfl, rfl, rfl, by decide +kernel, rfl, by decide +kernel, by decide +kernel⟩
def spWrong : Sp := fun vs H Q _ => ∃ (aF aA : Addr) (f a : List (Option Int)) (m : Int), vs = [.ref aF, .ref aA, .int m] ∧ SqH H aF (f.map ov) ∧ SqH H aA (a.map ov) ∧ OkRow f a m ∧ ∀ H', Same H H' → Q .non H'
theorem ok_wrong (D : Df K mg "_wrong_argument" s_wrong_argument ["first", "again", "more"]) (T : Txt mg) (o_is_number : Own P w K mg base "is_number" 2 ["value"] spIsNum) (o_is_sequence : Own P w K mg base "is_sequence" 1 ["value"] spIsSeq)
    (o_rises : Own P w K mg base "_rises" 2 ["things"] (spRises K)) : Own P w K mg base "_wrong_argument" 3 ["first", "again", "more"] spWrong := by
  refine D.own sc_wrong_argument (fun vs H Q E h => ?_) (fun fa cdv A outer s H vs Q E hr h => ?_)
  · obtain ⟨_, _, _, _, _, rfl, _⟩ := h
    rfl
  · obtain ⟨aF, aA, f, a, m, rfl, hF, hA, ok, k⟩ := h
    refine ⟨_, (pss_cons (ps_if (PW.pt (pw_or (pt_not (pt_val (pe_own o_is_sequence (hr.mono (by decide)) (pa_cons (pv 0) pa_nil)))) (pw_or1 (pt_not (pt_val (pe_own o_rises (hr.mono (by decide)) (pa_cons (pv 0) pa_nil)))))))
    (pss_one (ps_ret pe_str))
    pss_nil)
  (pss_cons (ps_if (PW.pt (pw_or (pt_not (pt_val (pe_own o_is_sequence (hr.mono (by decide)) (pa_cons (pv 1) pa_nil)))) (pw_or (pt_cmpR op_eq (pe_callB call_len_seq (by rfl) T.len PySem.boot_len (pa_cons (pv 1) pa_nil)) pe_int (nomark _)) (pw_or1 (pt_not (pt_val (pe_own o_rises (hr.mono (by decide)) (pa_cons (pv 1) pa_nil))))))))
    (pss_one (ps_ret pe_str))
    pss_nil)
  (C8.pss_cut (ps_set (i := 3) sc_wrong_argument.nd rfl (Or.inl rfl) (pe_ifExp (pt_cmpR op_gt (pe_callB call_len_seq (by rfl) T.len PySem.boot_len (pa_cons (pv 0) pa_nil)) pe_int (nomark _)) (pe_ix ix_seq (pv 0) (pe_un un_neg pe_int) (fun _ _ => rfl)) pe_non))
  (pss_cons (ps_if (pt_cmpR op_isN (pe_ix ix_seq (pv 1) pe_int (fun _ _ => rfl)) pe_non (nomark _))
    (pss_cons (ps_if (PW.pt (pw_or (pt_cmpR op_notN (pe_ix ix_seq (pv 1) (pe_un un_neg pe_int) (fun _ _ => rfl)) pe_non (nomark _)) (pw_or1 (pt_cmpR op_notN (pv 3) pe_non (nomark _)))))
        (pss_one (ps_ret pe_str))
        pss_nil)
      (pss_one (ps_ret (pe_ifExp (PW.pt (pw_and (pt_val (pe_own o_is_number (hr.mono (by decide)) (pa_cons (pv 2) pa_nil))) (pw_and1 (pt_cmpR op_eq (pv 2) pe_int (nomark _))))) pe_non pe_str))))
    pss_nil)
  (pss_cons (ps_if (PW.pt (pw_and (pt_cmpR op_notN (pv 3) pe_non (nomark _)) (pw_and1 (pt_cmpR op_lt (pe_ix ix_seq (pv 1) pe_int (fun _ _ => rfl)) (pv 3) (nomark _)))))
    (pss_one (ps_ret pe_str))
    pss_nil)
  (pss_one (ps_ret (pe_ifExp (PW.pt (pw_and (pt_val (pe_own o_is_number (hr.mono (by decide)) (pa_cons (pv 2) pa_nil))) (pw_and1 (pt_cmpR op_ge (pv 2) (pe_op op_sub (pe_ix ix_seq (pv 1) (pe_un un_neg pe_int) (fun _ _ => rfl)) (pe_ix ix_seq (pv 1) pe_int (fun _ _ => rfl))) (nomark _))))) pe_non pe_str)))))))), ?_⟩
    walk_at "s"
    refine fun H1 s1 => ?_
    have hF1 : SqS K H1 aF (f.map ov) := (s1.sqh hF).sqs
    have hA1 : SqH H1 aA (a.map ov) := s1.sqh hA
    walk_at "s"
    rw [ok.rf]
    walk_at "s"
    refine fun H2 s2 => ?_
    have hA2 : SqS K H2 aA (a.map ov) := (s2.sqh hA1).sqs
    have hF2 : SqS K H2 aF (f.map ov) := s2.sqs hF1
    walk_at "s"
    have hl : ¬ ((a.map ov).length : Int) = 0 := by
      cases a with
      | nil => exact absurd rfl ok.ne
      | cons x r => simp only [List.map_cons, List.length_cons]; omega
    refine ite2 (fun c => (hl (V.int.inj (of_decide_eq_true c))).elim) (fun _ => ?_)
    walk_at "s"
    rw [ok.ra]
    walk_at "s"
    refine ⟨fun σ' H' => σ' = [some (.ref aF), some (.ref aA), some (.int m), some (ov f.getLast?.join)] ∧ H' = H2, ?_, ?_⟩
    · walk_at "s"
      cases hf : f.getLast? with
      | none =>
        have : f = [] := List.getLast?_eq_none_iff.mp hf
        subst this
        exact ite2 (fun c => by simp at c) (fun _ => ⟨rfl, rfl⟩)
      | some e =>
        have hm : atI (f.map ov) (-1) = some (ov e) := atI_neg1 (by rw [last_map, hf]; rfl)
        have hp : 0 < f.length := by
          cases f with
          | nil => cases hf
          | cons x r => simp
        refine ite2 (fun c => ?_) (fun c => absurd (by simpa using hp) c)
        have hF3 := hF2
        rcases hF3 with hF3 | hF3
        · walk_at "s"
          rfl
        · walk_at "s"
          rfl
    · rintro σ' H' ⟨rfl, rfl⟩
      walk_at "s"
      have fin : Q .non H' := k _ (s1.trans s2)
      rcases ok.ct with ⟨lo, hi, h0, h1, h2, h3, h4⟩ | ⟨h0, h1, h2, h3⟩
      · have hm0 : atI (a.map ov) 0 = some (.int lo) := atI_head (by rw [head_map, h0]; rfl)
        have hm1 : atI (a.map ov) (-1) = some (.int hi) := atI_neg1 (by rw [last_map, h1]; rfl)
        have d0 : decide (0 ≤ m) = true := decide_eq_true h3
        have d1 : decide (hi - lo ≤ m) = true := decide_eq_true h4
        cases hj : f.getLast?.join with
        | none =>
          rcases hA2 with hA2 | hA2
          · walk_at "s"
            rw [d0]
            walk_at "s"
            rw [d1]
            walk_at "s"
            exact fin
          · walk_at "s"
            rw [d0]
            walk_at "s"
            rw [d1]
            walk_at "s"
            exact fin
        | some e =>
          have d2 : decide (lo < e) = false := decide_eq_false (by
            have := h2 e (by cases q : f.getLast? with | none => rw [q] at hj; cases hj | some y => rw [q] at hj; exact congrArg some hj)
            omega)
          rcases hA2 with hA2 | hA2
          · walk_at "s"
            rw [d2]
            walk_at "s"
            rw [d0]
            walk_at "s"
            rw [d1]
            walk_at "s"
            exact fin
          · walk_at "s"
            rw [d2]
            walk_at "s"
            rw [d0]
            walk_at "s"
            rw [d1]
            walk_at "s"
            exact fin
      · have hm0 : atI (a.map ov) 0 = some .non := atI_head (by rw [head_map, h0]; rfl)
        have hm1 : atI (a.map ov) (-1) = some .non := atI_neg1 (by rw [last_map, h1]; rfl)
        have hj : f.getLast?.join = none := by rcases h2 with h2 | h2 <;> rw [h2] <;> rfl
        subst h3
        rw [hj]
        rcases hA2 with hA2 | hA2
        · walk_at "s"
          exact fin
        · walk_at "s"
          exact fin
end
end My

namespace My
open PySem PySem.Spec PyProof.Rows L2
local macro_rules | `(tactic| walk_at "side") => `(tactic| first | (dsimp only; omega) | exact ⟨by omega, by omega⟩ | exact Or.inl ⟨by omega, by omega⟩ | exact Or.inr ⟨by omega, by omega⟩ | decide)
local macro_rules | `(tactic| walk_at "sq") => `(tactic| first | assumption | exact SqL.of (by assumption) | exact SqT.of (by assumption) | (refine L2.Same.seq (by assumption) ?_; walk_at "sq") | (refine L2.Same.seqT (by assumption) ?_; walk_at "sq") | exact Or.inl (by walk_at "sq") | exact Or.inr (by walk_at "sq"))
local macro_rules | `(tactic| walk_at "1") => `(tactic| first
  | refine ⟨_, rfl, iteT ?_⟩
  | refine ⟨_, rfl, iteF ?_⟩
  | refine ⟨_, rfl, ?_⟩
  | refine ⟨_, _, rfl, rfl, (by walk_at "side"), ?_⟩
  | refine ⟨_, _, rfl, rfl, ?_⟩
  | refine ⟨_, _, _, _, true, rfl, .ty _, .base (.int _), kit_ty (a := "int") (by decide +kernel), ?_⟩
  | refine ⟨_, _, _, _, false, rfl, .ty _, .base (.int _), kit_ty (a := "int") (by decide +kernel), ?_⟩
  | refine ⟨_, _, rfl, (by walk_at "sq"), ?_⟩
  | refine ⟨_, _, _, _, rfl, rfl, (by walk_at "sq"), (by first | rfl | assumption), ?_⟩
  | refine Or.inl ⟨_, _, _, _, rfl, rfl, (by walk_at "sq"), (by first | rfl | assumption), ?_⟩
  | refine Or.inr (Or.inl ⟨_, _, _, _, rfl, rfl, (by walk_at "sq"), (by first | rfl | assumption), ?_⟩)
  | refine ⟨rfl, ?_⟩
  | refine iteT ?_
  | refine iteF ?_
  | refine Or.inl ⟨_, rfl, ?_⟩)
local macro_rules | `(tactic| walk_at "s") => `(tactic| repeat walk_at "1")
local macro_rules | `(tactic| walk_at "size") => `(tactic| first | exact Nat.le_of_ble_eq_true rfl | (simp only [List.length_map, List.length_append, List.length_cons, List.length_nil]; omega))
local macro_rules | `(tactic| walk_at "new") => `(tactic| (first | refine ⟨(by walk_at "size"), fun p hp => ?_⟩ | refine fun p hp => ?_); (generalize hq : upd _ p _ = H1); (obtain ⟨s, e⟩ := new_facts hp hq); clear hq)

def later1 (m : Int) (t : Option Int) : Option Int := t.map (· + m)
theorem take_succ_map {α β : Type} {xs : List α} {i : Nat} {x : α} (f : α → β) (h : xs[i]? = some x) : (xs.take (i + 1)).map f = (xs.take i).map f ++ [f x] := by
  rw [List.take_add_one, h, List.map_append]
  rfl
theorem get_map {xs : List (Option Int)} {i : Nat} {x : V} (h : (xs.map ov)[i]? = some x) : ∃ t, xs[i]? = some t ∧ ov t = x := by simpa using h
/-! ### times as data -/
def od : Option Int → PyData
  | none => .none
  | some i => .int i
theorem dpAll_ov {K : PySem.W.Frag} {H : Hp} : ∀ xs : List (Option Int), DpAll K H (xs.map ov) (xs.map od)
  | [] => .nil
  | none :: r => .cons .non (dpAll_ov r)
  | some i :: r => .cons (.int i) (dpAll_ov r)
theorem canLay_od : ∀ xs : List (Option Int), PyData.canLayAll0 (xs.map od) = true
  | [] => rfl
  | none :: r => by
    show (true && PyData.canLayAll0 (r.map od)) = true
    rw [canLay_od r]; rfl
  | some i :: r => by
    show (true && PyData.canLayAll0 (r.map od)) = true
    rw [canLay_od r]; rfl
theorem depth_od : ∀ xs : List (Option Int), PyData.depthAll (xs.map od) = 0
  | [] => rfl
  | none :: r => by
    show max 0 (PyData.depthAll (r.map od)) = 0
    rw [depth_od r]; rfl
  | some i :: r => by
    show max 0 (PyData.depthAll (r.map od)) = 0
    rw [depth_od r]; rfl
theorem shaped_l (xs : List (Option Int)) : SeqAt.shaped (.list (xs.map od)) = true := by
  show (PyData.canLayAll0 (xs.map od) && decide (PyData.depthAll (xs.map od) + 1 ≤ 64)) = true
  rw [canLay_od, depth_od]; rfl
theorem shaped_t (xs : List (Option Int)) : SeqAt.shaped (.tuple (xs.map od)) = true := by
  show (PyData.canLayAll0 (xs.map od) && decide (PyData.depthAll (xs.map od) + 1 ≤ 64)) = true
  rw [canLay_od, depth_od]; rfl
theorem eqv_od (x y : Option Int) : PyData.eqv (od x) (od y) = decide (x = y) := by
  cases x <;> cases y
  · rfl
  · rfl
  · rfl
  · rename_i i j
    show (i == j) = decide (some i = some j)
    by_cases e : i = j
    · subst e; simp
    · rw [beq_eq_false_iff_ne.mpr e]
      exact (decide_eq_false fun q => e (Option.some.inj q)).symm
theorem eqvAll_od : ∀ xs ys : List (Option Int), PyData.eqvAll (xs.map od) (ys.map od) = decide (xs = ys)
  | [], [] => rfl
  | [], _ :: _ => rfl
  | _ :: _, [] => rfl
  | x :: xs, y :: ys => by
    show (PyData.eqv (od x) (od y) && PyData.eqvAll (xs.map od) (ys.map od)) = decide (x :: xs = y :: ys)
    rw [eqv_od, eqvAll_od xs ys]
    by_cases e : x = y
    · subst e; simp
    · rw [decide_eq_false e]
      exact (decide_eq_false fun q => e (List.cons.inj q).1).symm
theorem eqv_l (xs ys : List (Option Int)) : PyData.eqv (.list (xs.map od)) (.list (ys.map od)) = decide (xs = ys) := eqvAll_od xs ys
theorem eqv_t (xs ys : List (Option Int)) : PyData.eqv (.tuple (xs.map od)) (.tuple (ys.map od)) = decide (xs = ys) := eqvAll_od xs ys
/-- two lists of times compared -/
theorem rd_eqL {K : PySem.W.Frag} {H : Hp} {Q : VK} {p q : Addr} (xs ys : List (Option Int)) (h1 : SqL K H p (xs.map ov)) (h2 : SqL K H q (ys.map ov)) (k : Q (.bl (decide (xs = ys))) H) : rEqD K (.ref p) (.ref q) H Q :=
  ⟨_, _, .lst h1 (dpAll_ov xs), .lst h2 (dpAll_ov ys), shaped_l xs, shaped_l ys, by
    rw [show PyData.eqv (.list (xs.map od)) (.list (ys.map od)) = PyData.eqvAll (xs.map od) (ys.map od) from rfl, eqvAll_od]
    exact k⟩
theorem cut_from {xs : List V} {t : Nat} (h : t ≤ xs.length) : cutV xs (some (t : Int)) none = xs.drop t := by
  unfold cutV
  rw [HT.sIx_nat, HT.sIx_none, Nat.min_eq_left h]
  exact List.take_of_length_le (by rw [List.length_drop]; omega)
theorem cut_to {xs : List V} {t : Nat} (h : t ≤ xs.length) : cutV xs none (some (t : Int)) = xs.take t := by
  unfold cutV
  rw [HT.sIx_nat, HT.sIx_none, Nat.min_eq_left h, Nat.sub_zero]
  rfl
theorem cut_mid {xs : List V} {b t : Nat} (h : t ≤ xs.length) (hb : b ≤ t) : cutV xs (some (b : Int)) (some (t : Int)) = (xs.drop b).take (t - b) := by
  unfold cutV
  rw [HT.sIx_nat, HT.sIx_nat, Nat.min_eq_left h, Nat.min_eq_left (Nat.le_trans hb h)]
section
variable {P : Program} {w : World} {K : PySem.W.Frag} {mg : Str → Option Value} {base : Heap}
abbrev s_all_later : Stmt := topS 17
theorem sc_all_later : FnScope ["things", "lasts", "thing"] ["things", "lasts"] (defScope s_all_later) := ⟨rfl, rfl, rfl, by decide +kernel, rfl, by decide +kernel, by decide +kernel⟩
def spAllLater (K : PySem.W.Frag) : Sp := fun vs H Q _ => ∃ (a : Addr) (xs : List (Option Int)) (m : Int), vs = [.ref a, .int m] ∧ SqS K H a (xs.map ov) ∧ xs.length < sizeLine ∧ ∀ H' p, Same H H' → H p = none → H' p = some (.lst ((xs.map (later1 m)).map ov)) → Q (.ref p) H'
theorem ok_all_later (D : Df K mg "all_later" s_all_later ["things", "lasts"]) : Own P w K mg base "all_later" 1 ["things", "lasts"] (spAllLater K) := by
  refine D.own sc_all_later (fun vs H Q E h => ?_) (fun fa cdv A outer s H vs Q E hr h => ?_)
  · obtain ⟨_, _, _, rfl, _⟩ := h
    rfl
  · obtain ⟨a, xs, m, rfl, hS, hz, k⟩ := h
    refine ⟨_, (pss_one (ps_ret (pe_lc (own := [("thing", 2)]) (g := gName 2) (tt := tYes) rfl sc_all_later.nd (pi_alt (pi_list (pv 0)) (pi_tup (pv 0))) (blkOk_by (own := [("thing", 2)]) (N := ["things", "lasts", "thing"]) (sc := defScope s_all_later) (by decide +kernel)) (fun _ _ _ _ _ => (pg_name (i := 2) sc_all_later.nd rfl (Or.inl rfl))) (fun _ _ _ _ _ => pts_nil) (fun _ _ _ _ _ => (pe_ifExp (pt_cmpR op_isN (pv 2) pe_non (nomark _)) pe_non (pe_op op_add (pv 2) (pv 1))))))), ?_⟩
    refine seq_pi hS rfl fun J hJ => fun L nL => lc_seq hJ (fun i H' => Same H H' ∧ H' L = some (.lst (((xs.take i).map (later1 m)).map ov))) ⟨same_upd nL, upd_same⟩ (fun i H' q => q.1) ?_ ?_
    · rintro i x H' hi ⟨s1, e1⟩
      obtain ⟨t, ht, rfl⟩ := get_map hi
      have fin : Same H (upd H' L (.lst ((((xs.take i).map (later1 m)).map ov) ++ [ov (later1 m t)]))) ∧ (upd H' L (.lst ((((xs.take i).map (later1 m)).map ov) ++ [ov (later1 m t)]))) L = some (.lst (((xs.take (i + 1)).map (later1 m)).map ov)) := by
        refine ⟨s1.upd1 nL, ?_⟩
        rw [upd_same, take_succ_map _ ht, List.map_append]
        rfl
      have hz' : (((xs.take i).map (later1 m)).map ov).length < sizeLine := by
        rw [List.length_map, List.length_map, List.length_take]
        exact Nat.lt_of_le_of_lt (Nat.min_le_right _ _) hz
      cases t with
      | none =>
        walk_at "s"
        exact ⟨_, e1, hz', fin⟩
      | some t =>
        walk_at "s"
        exact ⟨_, e1, hz', fin⟩
    · rintro H' ⟨s1, e1⟩
      rw [show (xs.map ov).length = xs.length by simp, List.take_length] at e1
      exact k _ _ s1 nL e1
abbrev s_shortest_turn : Stmt := topS 16
theorem sc_shortest_turn : FnScope ["again", "more", "whole", "turn"] ["again", "more"] (defScope s_shortest_turn) := ⟨rfl, rfl, rfl, by decide +kernel, rfl, by decide +kernel, by decide +kernel⟩
/-- again comes again after t things -/
structure Fits (a : List (Option Int)) (m : Int) (t : Nat) : Prop where
  pos : 0 < t
  dvd : t ∣ a.length
  num : (m * t) % a.length = 0
  eq : a.drop t = (a.take (a.length - t)).map (later1 (m * t / a.length))
/-- the least one -/
structure LeastTurn (a : List (Option Int)) (m : Int) (t : Nat) : Prop where
  le : t ≤ a.length
  fits : Fits a m t
  least : ∀ t', t' < t → ¬ Fits a m t'
theorem fits_whole {a : List (Option Int)} {m : Int} (h : a ≠ []) : Fits a m a.length :=
  ⟨List.length_pos_iff.mpr h, Nat.dvd_refl _, by simp, by simp⟩
def spShortT : Sp := fun vs H Q _ => ∃ (aA : Addr) (a : List (Option Int)) (m : Int), vs = [.ref aA, .int m] ∧ SqH H aA (a.map ov) ∧ a ≠ [] ∧ a.length < 1000 ∧ 0 ≤ m ∧ m < 2 ^ 60 ∧ ∀ H' t, Same H H' → LeastTurn a m t → Q (.int (t : Int)) H'
theorem ok_shortest_turn (D : Df K mg "_shortest_turn" s_shortest_turn ["again", "more"]) (T : Txt mg) (o_all_later : Own P w K mg base "all_later" 1 ["things", "lasts"] (spAllLater K)) : Own P w K mg base "_shortest_turn" 2 ["again", "more"] spShortT := by
  refine D.own sc_shortest_turn (fun vs H Q E h => ?_) (fun fa cdv A outer s H vs Q E hr h => ?_)
  · obtain ⟨_, _, _, rfl, _⟩ := h
    rfl
  · obtain ⟨aA, a, m, rfl, hA, hne, hz, m0, m1, k⟩ := h
    refine ⟨_, (pss_cons (ps_set (i := 2) sc_shortest_turn.nd rfl (Or.inl rfl) (pe_callB call_len_seq (by rfl) T.len PySem.boot_len (pa_cons (pv 0) pa_nil)))
  (pss_cons (ps_for PassesOwn.never rfl (pi_range2 (by rfl) T.range (pa_cons pe_int (pa_cons (pv 2) pa_nil))) (pg_name (i := 3) sc_shortest_turn.nd rfl (Or.inl rfl))
    (pss_one (ps_if (PW.pt (pw_and (pt_cmpR op_eq (pe_op op_mod (pv 2) (pv 3)) pe_int (nomark _)) (pw_and1 (pt_cmpR op_eq (pe_op op_mod (pe_op op_mul (pv 1) (pv 3)) (pv 2)) pe_int (nomark _)))))
        (pss_one (ps_if (pt_cmpR (op_eqD hr.units) (pe_callTy call_list_of (by rfl) T.list (by decide +kernel) (pa_cons (pe_slice (SlR.or sl_list sl_tup) (pv 0) (po_some (pv 3)) po_none) pa_nil)) (pe_own o_all_later (hr.mono (by decide)) (pa_cons (pe_slice (SlR.or sl_list sl_tup) (pv 0) po_none (po_some (pe_op op_sub (pv 2) (pv 3)))) (pa_cons (pe_op op_fdiv (pe_op op_mul (pv 1) (pv 3)) (pv 2)) pa_nil))) (nomark _))
            (pss_one (ps_ret (pv 3)))
            pss_nil))
        pss_nil)))
  (pss_one (ps_ret (pv 2))))), ?_⟩
    have hA' : SqS K H aA (a.map ov) := hA.sqs
    have hlen : (a.map ov).length = a.length := List.length_map ..
    have hp : 0 < a.length := List.length_pos_iff.mpr hne
    walk_at "s"
    rw [hlen]
    refine ⟨1, a.length, rfl, ⟨by decide, by decide, by omega, by omega⟩, for_range (lo := 1) (n := ((a.length : Int) - 1).toNat) (fun i σ H' => ∃ y, σ = [some (.ref aA), some (.int m), some (.int (a.length : Int)), y] ∧ Same H H' ∧ ∀ t', t' < i + 1 → ¬ Fits a m t')
      ⟨_, rfl, Same.refl _, fun t' ht f => by have := f.pos; omega⟩ ?_ ?_⟩
    · rintro i σ H' hi ⟨y, rfl, s1, hno⟩
      have ei : (1 : Int) + (i : Int) = ((i + 1 : Nat) : Int) := by omega
      have hi1 : i + 1 < a.length := by omega
      rw [ei]
      have nxt : ¬ Fits a m (i + 1) → ∀ t', t' < i + 1 + 1 → ¬ Fits a m t' := fun h t' ht f => by
        by_cases e : t' = i + 1
        · rw [e] at f
          exact h f
        · exact hno t' (by omega) f
      walk_at "s"
      refine ite2 (fun c1 => ?_) (fun c1 => ?_)
      · walk_at "s"
        refine ite2 (fun c2 => ?_) (fun c2 => ?_)
        · walk_at "s"
          have hle : i + 1 ≤ (a.map ov).length := by omega
          have nw1 : ¬ (HT.sIx (a.map ov).length 0 (some ((i + 1 : Nat) : Int)) = 0 ∧ HT.sIx (a.map ov).length (a.map ov).length none = (a.map ov).length) := fun q => by
            have q1 := q.1
            rw [HT.sIx_nat] at q1
            omega
          have esub : ((a.length : Int) - ((i + 1 : Nat) : Int)) = ((a.length - (i + 1) : Nat) : Int) := by omega
          have nw2 : ¬ (HT.sIx (a.map ov).length 0 none = 0 ∧ HT.sIx (a.map ov).length (a.map ov).length (some ((a.length - (i + 1) : Nat) : Int)) = (a.map ov).length) := fun q => by
            have q1 := q.2
            rw [HT.sIx_nat] at q1
            omega
          rcases hA with hA | hA
          all_goals (
            first
              | refine Or.inl ⟨_, _, rfl, SqL.of (s1 _ _ hA), ?_⟩
              | refine Or.inr ⟨_, _, rfl, SqT.of (s1 _ _ hA), nw1, ?_⟩
            walk_at "new"
            rename_i p1 n1 H1 s2 e1
            rw [cut_from hle, ← List.map_drop] at e1
            walk_at "s"
            walk_at "new"
            rename_i p2 n2 H2 s3 e2
            walk_at "s"
            rw [esub]
            first
              | refine Or.inl ⟨_, _, rfl, SqL.of (s3 _ _ (s2 _ _ (s1 _ _ hA))), ?_⟩
              | refine Or.inr ⟨_, _, rfl, SqT.of (s3 _ _ (s2 _ _ (s1 _ _ hA))), nw2, ?_⟩
            walk_at "new"
            rename_i p3 n3 H3 s4 e3
            rw [cut_to (by omega), ← List.map_take] at e3
            walk_at "s"
            refine ⟨p3, a.take (a.length - (i + 1)), _, rfl, (by first | exact Or.inl (SqL.of e3) | exact Or.inr (SqT.of e3)), Nat.lt_of_le_of_lt (by rw [List.length_take]; omega) (small1000 (by omega : 1000 ≤ 1000)), fun H4 p4 s5 n4 e4 => ?_⟩
            refine ⟨_, _, .lst (SqL.of (s5 _ _ (s4 _ _ e2))) (dpAll_ov _), .lst (SqL.of e4) (dpAll_ov _), shaped_l _, shaped_l _, ?_⟩
            rw [eqv_l]
            have s6 : Same H H4 := s1.trans (s2.trans (s3.trans (s4.trans s5)))
            walk_at "s"
            have m1e : ((a.length : Int) % ((i + 1 : Nat) : Int)) = 0 := V.int.inj (of_decide_eq_true c1)
            have m2e : (m * ((i + 1 : Nat) : Int)) % (a.length : Int) = 0 := V.int.inj (of_decide_eq_true c2)
            refine ite2 (fun c3 => ?_) (fun c3 => ?_)
            · walk_at "s"
              exact k _ _ s6 ⟨by omega, ⟨by omega, Nat.dvd_of_mod_eq_zero (by omega), m2e, of_decide_eq_true c3⟩, fun t' ht => hno t' (by omega)⟩
            · walk_at "s"
              exact ⟨s6, nxt fun f => c3 (decide_eq_true f.eq)⟩)
        · walk_at "s"
          refine ⟨s1, nxt fun f => c2 (decide_eq_true (congrArg V.int f.num))⟩
      · walk_at "s"
        refine ⟨s1, nxt fun f => c1 (decide_eq_true (congrArg V.int ?_))⟩
        have := Nat.mod_eq_zero_of_dvd f.dvd
        omega
    · rintro σ H' ⟨y, rfl, s1, hno⟩
      walk_at "s"
      refine k _ _ s1 ⟨Nat.le_refl _, fits_whole hne, fun t' ht f => hno t' (by omega) f⟩
end
end My

namespace My
open PySem PySem.Spec PyProof.Rows L2
local macro_rules | `(tactic| walk_at "side") => `(tactic| first | (dsimp only; omega) | exact ⟨by omega, by omega⟩ | exact Or.inl ⟨by omega, by omega⟩ | exact Or.inr ⟨by omega, by omega⟩ | decide)
local macro_rules | `(tactic| walk_at "sq") => `(tactic| first | assumption | exact SqL.of (by assumption) | exact SqT.of (by assumption) | (refine L2.Same.seq (by assumption) ?_; walk_at "sq") | (refine L2.Same.seqT (by assumption) ?_; walk_at "sq") | exact Or.inl (by walk_at "sq") | exact Or.inr (by walk_at "sq"))
local macro_rules | `(tactic| walk_at "1") => `(tactic| first
  | refine ⟨_, rfl, iteT ?_⟩
  | refine ⟨_, rfl, iteF ?_⟩
  | refine ⟨_, rfl, ?_⟩
  | refine ⟨_, _, rfl, rfl, (by walk_at "side"), ?_⟩
  | refine ⟨_, _, rfl, rfl, ?_⟩
  | refine ⟨_, _, _, _, true, rfl, .ty _, .base (.int _), kit_ty (a := "int") (by decide +kernel), ?_⟩
  | refine ⟨_, _, _, _, false, rfl, .ty _, .base (.int _), kit_ty (a := "int") (by decide +kernel), ?_⟩
  | refine ⟨_, _, rfl, (by walk_at "sq"), ?_⟩
  | refine ⟨_, _, _, _, rfl, rfl, (by walk_at "sq"), (by first | rfl | assumption), ?_⟩
  | refine Or.inl ⟨_, _, _, _, rfl, rfl, (by walk_at "sq"), (by first | rfl | assumption), ?_⟩
  | refine Or.inr (Or.inl ⟨_, _, _, _, rfl, rfl, (by walk_at "sq"), (by first | rfl | assumption), ?_⟩)
  | refine ⟨rfl, ?_⟩
  | refine iteT ?_
  | refine iteF ?_
  | refine Or.inl ⟨_, rfl, ?_⟩)
local macro_rules | `(tactic| walk_at "s") => `(tactic| repeat walk_at "1")
local macro_rules | `(tactic| walk_at "size") => `(tactic| first | exact Nat.le_of_ble_eq_true rfl | (simp only [List.length_map, List.length_append, List.length_cons, List.length_nil]; omega))
local macro_rules | `(tactic| walk_at "new") => `(tactic| (first | refine ⟨(by walk_at "size"), fun p hp => ?_⟩ | refine fun p hp => ?_); (generalize hq : upd _ p _ = H1); (obtain ⟨s, e⟩ := new_facts hp hq); clear hq)

/-- the least begin from which on what stands comes again -/
structure ShortF (xs : List (Option Int)) (t : Nat) (g : Int) (b b' : Nat) : Prop where
  le : b' ≤ b
  eq : ∀ n, b' ≤ n → n < b → xs[n + t]? = (xs[n]?).map (later1 g)
  least : b' = 0 ∨ xs[b' - 1 + t]? ≠ (xs[b' - 1]?).map (later1 g)
section
variable {P : Program} {w : World} {K : PySem.W.Frag} {mg : Str → Option Value} {base : Heap}
abbrev s_shortest_first : Stmt := topS 18
theorem sc_shortest_first : FnScope ["things", "begin", "turn", "grow"] ["things", "begin", "turn", "grow"] (defScope s_shortest_first) := ⟨rfl, rfl, rfl, by decide +kernel, rfl, by decide +kernel, by decide +kernel⟩
def spShortF : Sp := fun vs H Q _ => ∃ (aT : Addr) (xs : List (Option Int)) (b t : Nat) (g : Int), vs = [.ref aT, .int b, .int t, .int g] ∧ H aT = some (.lst (xs.map ov)) ∧ 0 < t ∧ b + t ≤ xs.length ∧ ∀ H' b', Same H H' → ShortF xs t g b b' → Q (.int (b' : Nat)) H'
theorem ok_shortest_first (D : Df K mg "_shortest_first" s_shortest_first ["things", "begin", "turn", "grow"]) (o_all_later : Own P w K mg base "all_later" 1 ["things", "lasts"] (spAllLater K)) : Own P w K mg base "_shortest_first" 2 ["things", "begin", "turn", "grow"] spShortF := by
  refine D.own sc_shortest_first (fun vs H Q E h => ?_) (fun fa cdv A outer s H vs Q E hr h => ?_)
  · obtain ⟨_, _, _, _, _, rfl, _⟩ := h
    rfl
  · obtain ⟨aT, xs, b, t, g, rfl, hT, ht, hbt, k⟩ := h
    refine ⟨_, (pss_cons (ps_while PassesOwn.never (PW.pt (pw_and (pt_cmpR op_gt (pv 1) pe_int (nomark _)) (pw_and1 (pt_cmpR (op_eqD hr.units) (pe_lst (pa_cons (pe_ix ix_list (pv 0) (pe_op op_add (pe_op op_sub (pv 1) pe_int) (pv 2)) (fun _ _ => rfl)) pa_nil)) (pe_own o_all_later (hr.mono (by decide)) (pa_cons (pe_lst (pa_cons (pe_ix ix_list (pv 0) (pe_op op_sub (pv 1) pe_int) (fun _ _ => rfl)) pa_nil)) (pa_cons (pv 3) pa_nil))) (nomark _)))))
    (pss_one (ps_aug (i := 1) sc_shortest_first.nd rfl (Or.inl rfl) pe_int ip_sub)))
  (pss_one (ps_ret (pv 1)))), ?_⟩
    refine ⟨fun m σ H' => m ≤ b ∧ σ = [some (.ref aT), some (.int (m : Nat)), some (.int (t : Nat)), some (.int g)] ∧ Same H H' ∧ ∀ n, m ≤ n → n < b → xs[n + t]? = (xs[n]?).map (later1 g),
      ⟨b, Nat.le_refl _, rfl, Same.refl _, fun n h1 h2 => absurd h1 (by omega)⟩, ?_⟩
    rintro m σ H' ⟨hm, rfl, s1, he⟩
    cases m with
    | zero =>
      walk_at "s"
      exact k _ _ s1 ⟨Nat.zero_le _, he, Or.inl rfl⟩
    | succ m =>
      walk_at "s"
      have hp : decide ((0 : Int) < ((m + 1 : Nat) : Int)) = true := decide_eq_true (by omega)
      rw [hp]
      walk_at "s"
      have l1 : m + t < xs.length := by omega
      have l2 : m < xs.length := by omega
      have g1 : (xs.map ov)[m + t]? = some (ov xs[m + t]) := by rw [List.getElem?_map, List.getElem?_eq_getElem l1]; rfl
      have g2 : (xs.map ov)[m]? = some (ov xs[m]) := by rw [List.getElem?_map, List.getElem?_eq_getElem l2]; rfl
      refine ⟨_, _, _, _, rfl, rfl, SqL.of (s1 _ _ hT), at_of (by omega) g1, ?_⟩
      walk_at "s"
      walk_at "new"
      rename_i p1 n1 H1 s2 e1
      walk_at "s"
      refine ⟨_, _, _, _, rfl, rfl, SqL.of (s2 _ _ (s1 _ _ hT)), at_of (by omega) g2, ?_⟩
      walk_at "s"
      walk_at "new"
      rename_i p2 n2 H2 s3 e2
      walk_at "s"
      refine ⟨p2, [xs[m]], g, rfl, Or.inl (SqL.of e2), by exact Nat.lt_of_lt_of_le (by decide : 1 < 1000) (Nat.le_of_lt (small1000 (Nat.le_refl _))), fun H3 p3 s4 n4 e3 => ?_⟩
      refine ⟨_, _, .lst (xs := [xs[m + t]].map ov) (SqL.of (s4 _ _ (s3 _ _ e1))) (dpAll_ov [xs[m + t]]), .lst (SqL.of e3) (dpAll_ov _), shaped_l _, shaped_l _, ?_⟩
      rw [eqv_l]
      walk_at "s"
      have s5 : Same H H3 := s1.trans (s2.trans (s3.trans s4))
      have hx : xs[m + t]? = some xs[m + t] := List.getElem?_eq_getElem l1
      have hy : xs[m]? = some xs[m] := List.getElem?_eq_getElem l2
      refine ite2 (fun c => ?_) (fun c => ?_)
      · have c' := of_decide_eq_true c
        have c2 : xs[m + t] = later1 g xs[m] := by simpa using c'
        refine ⟨fun σ' H'' => σ' = [some (.ref aT), some (.int (m : Nat)), some (.int (t : Nat)), some (.int g)] ∧ H'' = H3, ?_, ?_⟩
        · rintro σ' H'' ⟨rfl, rfl⟩
          refine ⟨m, by omega, by omega, rfl, s5, fun n h1 h2 => ?_⟩
          by_cases e : n = m
          · rw [e, hx, hy, c2]; rfl
          · exact he n (by omega) h2
        · walk_at "s"
          refine ⟨?_, rfl⟩
          show [some (V.ref aT), some (V.int (((m + 1 : Nat) : Int) - 1)), some (V.int (t : Nat)), some (V.int g)] = _
          rw [show ((m + 1 : Nat) : Int) - 1 = (m : Int) by omega]
      · have c2 : ¬ xs[m + t] = later1 g xs[m] := fun q => c (decide_eq_true (by rw [q]; rfl))
        walk_at "s"
        refine k _ _ s5 ⟨hm, he, Or.inr ?_⟩
        show xs[m + t]? ≠ (xs[m]?).map (later1 g)
        rw [hx, hy]
        exact fun q => c2 (Option.some.inj q)
end
end My

namespace My
open PySem PySem.Spec PyProof.Rows L2
local macro_rules | `(tactic| walk_at "side") => `(tactic| first | (dsimp only; omega) | exact ⟨by omega, by omega⟩ | exact Or.inl ⟨by omega, by omega⟩ | exact Or.inr ⟨by omega, by omega⟩ | decide)
local macro_rules | `(tactic| walk_at "sq") => `(tactic| first | assumption | exact SqL.of (by assumption) | exact SqT.of (by assumption) | (refine L2.Same.seq (by assumption) ?_; walk_at "sq") | (refine L2.Same.seqT (by assumption) ?_; walk_at "sq") | exact Or.inl (by walk_at "sq") | exact Or.inr (by walk_at "sq"))
local macro_rules | `(tactic| walk_at "1") => `(tactic| first
  | refine ⟨_, rfl, iteT ?_⟩
  | refine ⟨_, rfl, iteF ?_⟩
  | refine ⟨_, rfl, ?_⟩
  | refine ⟨_, _, rfl, rfl, (by walk_at "side"), ?_⟩
  | refine ⟨_, _, rfl, rfl, ?_⟩
  | refine ⟨_, _, _, _, true, rfl, .ty _, .base (.int _), kit_ty (a := "int") (by decide +kernel), ?_⟩
  | refine ⟨_, _, _, _, false, rfl, .ty _, .base (.int _), kit_ty (a := "int") (by decide +kernel), ?_⟩
  | refine ⟨_, _, rfl, (by walk_at "sq"), ?_⟩
  | refine ⟨_, _, _, _, rfl, rfl, (by walk_at "sq"), (by first | rfl | assumption), ?_⟩
  | refine Or.inl ⟨_, _, _, _, rfl, rfl, (by walk_at "sq"), (by first | rfl | assumption), ?_⟩
  | refine Or.inr (Or.inl ⟨_, _, _, _, rfl, rfl, (by walk_at "sq"), (by first | rfl | assumption), ?_⟩)
  | refine ⟨_, _, rfl, Or.inl ⟨(by walk_at "sq"), ?_⟩⟩
  | refine ⟨rfl, ?_⟩
  | refine iteT ?_
  | refine iteF ?_
  | refine Or.inl ⟨_, rfl, ?_⟩)
local macro_rules | `(tactic| walk_at "s") => `(tactic| repeat walk_at "1")
local macro_rules | `(tactic| walk_at "size") => `(tactic| first | exact Nat.le_of_ble_eq_true rfl | (simp only [List.length_map, List.length_append, List.length_cons, List.length_nil]; omega))
local macro_rules | `(tactic| walk_at "new") => `(tactic| (first | refine ⟨(by walk_at "size"), fun p hp => ?_⟩ | refine fun p hp => ?_); (generalize hq : upd _ p _ = H1); (obtain ⟨s, e⟩ := new_facts hp hq); clear hq)

theorem upd_facts {H H1 : Hp} {p : Addr} {o : HO} (hq : upd H p o = H1) : H1 p = some o ∧ ∀ b, b ≠ p → H1 b = H b := by
  subst hq
  exact ⟨upd_same, fun b h => upd_ne h⟩
/-- a row's attributes -/
def rowF (pf pa : Addr) (m : Int) : List (Str × V) := [("first", .ref pf), ("again", .ref pa), ("more", .int m)]
def RowAt (C : Addr) (H : Hp) (p : Addr) (f a : List (Option Int)) (m : Int) : Prop :=
  ∃ dx pf pa, H p = some (.ins C dx (rowF pf pa m)) ∧ H pf = some (.tup (f.map ov)) ∧ H pa = some (.tup (a.map ov))
theorem _root_.L2.Same.row {C : Addr} {H H' : Hp} {p : Addr} {f a : List (Option Int)} {m : Int} (s : Same H H') (h : RowAt C H p f a m) : RowAt C H' p f a m := by
  obtain ⟨dx, pf, pa, h1, h2, h3⟩ := h
  exact ⟨dx, pf, pa, s _ _ h1, s _ _ h2, s _ _ h3⟩
/-- the least form of a row -/
def MadeOf (f a : List (Option Int)) (m : Int) (f' a' : List (Option Int)) (m' : Int) : Prop :=
  ∃ t b, LeastTurn a m t ∧ ShortF (f ++ a) t (m * t / a.length) f.length b ∧ f' = (f ++ a).take b ∧ a' = ((f ++ a).drop b).take t ∧ m' = m * t / a.length
structure RowCls (K : PySem.W.Frag) (mg : Str → Option Value) (C : Addr) : Prop where
  cl : Cls K C
  nF : NoAttr K C "first"
  nA : NoAttr K C "again"
  nM : NoAttr K C "more"
section
variable {P : Program} {w : World} {K : PySem.W.Frag} {mg : Str → Option Value} {base : Heap} {C : Addr}
abbrev s_Row_init : Stmt := inClass (topS 13) 0
theorem sc_Row_init : FnScope ["self", "first", "again", "more", "word", "turn", "grow", "things", "begin"] ["self", "first", "again", "more"] (defScope s_Row_init) := ⟨rfl, rfl, rfl, by decide +kernel, rfl, by decide +kernel, by decide +kernel⟩
def spInit (C : Addr) : Sp := fun vs H Q _ => ∃ (H0 : Hp) (p dx aF aA : Addr) (f a : List (Option Int)) (m : Int), vs = [.ref p, .ref aF, .ref aA, .int m] ∧ H0 p = none ∧ Same H0 H ∧ H p = some (.ins C dx []) ∧ SqH H0 aF (f.map ov) ∧ SqH H0 aA (a.map ov) ∧
  OkRow f a m ∧ f.length < 500 ∧ a.length < 500 ∧ 0 ≤ m ∧ m < 2 ^ 60 ∧ ∀ H' f' a' m', Same H0 H' → RowAt C H' p f' a' m' → MadeOf f a m f' a' m' → Q .non H'
theorem ok_init {f1 : Addr} {fd : FuncData} (F : FunD K "__init__" "Row.__init__" (defArgs s_Row_init) (defBody s_Row_init) (defScope s_Row_init) [.int 0] [] f1 fd) (R : RowCls K mg C) (T : Txt mg)
    (o_wrong_argument : Own P w K mg base "_wrong_argument" 3 ["first", "again", "more"] spWrong) (o_shortest_turn : Own P w K mg base "_shortest_turn" 2 ["again", "more"] spShortT)
    (o_shortest_first : Own P w K mg base "_shortest_first" 2 ["things", "begin", "turn", "grow"] spShortF) : FnOk P w K mg base CX0 4 f1 fd ["self", "first", "again", "more"] (spInit C) := by
  refine F.ok sc_Row_init (fun vs H Q E h => ?_) (fun cdv A outer s H vs Q E hr h => ?_)
  · obtain ⟨_, _, _, _, _, _, _, _, rfl, _⟩ := h
    rfl
  · obtain ⟨H0, p, dx, aF, aA, f, a, m, rfl, hp0, s0, hp, hF, hA, ok, lf, la, m0, m1, k⟩ := h
    refine ⟨_, (pss_cons (ps_set (i := 4) sc_Row_init.nd rfl (Or.inl rfl) (pe_own o_wrong_argument (hr.mono (by decide)) (pa_cons (pv 1) (pa_cons (pv 2) (pa_cons (pv 3) pa_nil)))))
  (pss_cons (ps_if (pt_cmpR op_notN (pv 4) pe_non (nomark _))
    (pss_one ps_never)
    pss_nil)
  (pss_cons (ps_set (i := 5) sc_Row_init.nd rfl (Or.inl rfl) (pe_own o_shortest_turn (hr.mono (by decide)) (pa_cons (pv 2) (pa_cons (pv 3) pa_nil))))
  (pss_cons (ps_set (i := 6) sc_Row_init.nd rfl (Or.inl rfl) (pe_op op_fdiv (pe_op op_mul (pv 3) (pv 5)) (pe_callB call_len_seq (by rfl) T.len PySem.boot_len (pa_cons (pv 2) pa_nil))))
  (pss_cons (ps_set (i := 7) sc_Row_init.nd rfl (Or.inl rfl) (pe_lst (StX.pa_star (pv 1) (StX.pa_star (pv 2) pa_nil))))
  (pss_cons (ps_set (i := 8) sc_Row_init.nd rfl (Or.inl rfl) (pe_own o_shortest_first (hr.mono (by decide)) (pa_cons (pv 7) (pa_cons (pe_callB call_len_seq (by rfl) T.len PySem.boot_len (pa_cons (pv 1) pa_nil)) (pa_cons (pv 5) (pa_cons (pv 6) pa_nil))))))
  (pss_cons (ps_fld (pv 0) (pe_callTy call_tuple_of (by rfl) T.tuple (by decide +kernel) (pa_cons (pe_slice sl_list (pv 7) po_none (po_some (pv 8))) pa_nil)) rfl)
  (pss_cons (ps_fld (pv 0) (pe_callTy call_tuple_of (by rfl) T.tuple (by decide +kernel) (pa_cons (pe_slice sl_list (pv 7) (po_some (pv 8)) (po_some (pe_op op_add (pv 8) (pv 5)))) pa_nil)) rfl)
  (pss_one (ps_fld (pv 0) (pv 6) rfl)))))))))), ?_⟩
    have h1000 : 1000 < sizeLine := small1000 (Nat.le_refl _)
    walk_at "s"
    refine ⟨aF, aA, f, a, m, rfl, s0.sqh hF, s0.sqh hA, ok, fun H1 s1 => ?_⟩
    walk_at "s"
    refine ⟨aA, a, m, rfl, s1.sqh (s0.sqh hA), ok.ne, by omega, m0, m1, fun H2 t s2 ht => ?_⟩
    have t0 := ht.fits.pos
    have t1 := ht.le
    have hA2 : SqH H2 aA (a.map ov) := s2.sqh (s1.sqh (s0.sqh hA))
    have hF2 : SqH H2 aF (f.map ov) := s2.sqh (s1.sqh (s0.sqh hF))
    have hA2s : SqL K H2 aA (a.map ov) ∨ SqT K H2 aA (a.map ov) := hA2.sqs
    have hA2t : SqT K H2 aA (a.map ov) ∨ SqL K H2 aA (a.map ov) := hA2.sqs.symm
    have hF2t : SqT K H2 aF (f.map ov) ∨ SqL K H2 aF (f.map ov) := hF2.sqs.symm
    have hla : ((a.map ov).length : Int) = (a.length : Int) := by rw [List.length_map]
    walk_at "s"
    walk_at "new"
    rename_i pt nt H3 s3 e3
    rw [show f.map ov ++ (a.map ov ++ []) = (f ++ a).map ov by rw [List.append_nil, List.map_append]] at e3
    have hF3 : SqL K H3 aF (f.map ov) ∨ SqT K H3 aF (f.map ov) := (s3.sqh hF2).sqs
    walk_at "s"
    rw [hla, show (f.map ov).length = f.length from List.length_map ..]
    refine ⟨pt, f ++ a, f.length, t, _, rfl, e3, t0, by rw [List.length_append]; omega, fun H4 b s4 hb => ?_⟩
    have hlen : (f ++ a).length = f.length + a.length := List.length_append
    have b0 := hb.le
    have e4 := s4 _ _ e3
    walk_at "s"
    have s04 : Same H0 H4 := s0.trans (s1.trans (s2.trans (s3.trans s4)))
    have hp4 : H4 p = some (.ins C dx []) := s4 _ _ (s3 _ _ (s2 _ _ (s1 _ _ hp)))
    walk_at "new"
    rename_i p5 n5 H5 s5 e5
    rw [cut_to (by rw [List.length_map]; omega), ← List.map_take] at e5
    walk_at "s"
    walk_at "new"
    rename_i p6 n6 H6 s6 e6
    have hp6 : H6 p = some (.ins C dx []) := s6 _ _ (s5 _ _ hp4)
    have d6 : p ≠ p6 := ne_of_none (s5 _ _ hp4) n6
    refine ⟨_, rfl, p, C, dx, [], rfl, hp6, R.cl, R.nF, (by show 0 < 1000; decide), ?_⟩
    generalize hq : upd _ p _ = H7
    obtain ⟨e7, o7⟩ := upd_facts hq
    clear hq
    have dt : pt ≠ p := fun q => by
      rw [q] at e4
      rw [e4] at hp4
      cases hp4
    have e7t : H7 pt = some (.lst ((f ++ a).map ov)) := (o7 _ dt).trans (s6 _ _ (s5 _ _ e4))
    have e7p6 : H7 p6 = some (.tup (((f ++ a).take b).map ov)) := (o7 _ d6.symm).trans e6
    walk_at "s"
    rw [show (b : Int) + (t : Int) = ((b + t : Nat) : Int) by omega]
    walk_at "s"
    walk_at "new"
    rename_i p8 n8 H8 s8 e8
    rw [cut_mid (by rw [List.length_map]; omega) (by omega), Nat.add_sub_cancel_left, ← List.map_drop, ← List.map_take] at e8
    walk_at "s"
    walk_at "new"
    rename_i p9 n9 H9 s9 e9
    have hp9 := s9 _ _ (s8 _ _ e7)
    have d9 : p ≠ p9 := ne_of_none (s8 _ _ e7) n9
    have e9p6 := s9 _ _ (s8 _ _ e7p6)
    refine ⟨_, rfl, p, C, dx, _, rfl, hp9, R.cl, R.nA, (by show 1 < 1000; decide), ?_⟩
    generalize hq : upd _ p _ = H10
    obtain ⟨e10, o10⟩ := upd_facts hq
    clear hq
    refine ⟨_, rfl, _, rfl, p, C, dx, _, rfl, e10, R.cl, R.nM, (by show 2 < 1000; decide), ?_⟩
    generalize hq : upd _ p _ = H11
    obtain ⟨e11, o11⟩ := upd_facts hq
    clear hq
    have np : ∀ c o, H0 c = some o → c ≠ p := fun c o e => ne_of_none e hp0
    refine k H11 ((f ++ a).take b) (((f ++ a).drop b).take t) _ (fun c o e => ?_) ⟨dx, p6, p9, e11, ?_, ?_⟩ ⟨t, b, ht, hb, rfl, rfl, rfl⟩
    · rw [o11 _ (np _ _ e), o10 _ (np _ _ e)]
      refine s9 _ _ (s8 _ _ ?_)
      rw [o7 _ (np _ _ e)]
      exact s6 _ _ (s5 _ _ (s04 _ _ e))
    · rw [o11 _ d6.symm, o10 _ d6.symm]
      exact e9p6
    · rw [o11 _ d9.symm, o10 _ d9.symm]
      exact e9
end
end My

namespace My
open PySem PySem.Spec PyProof.Rows L2
local macro_rules | `(tactic| walk_at "side") => `(tactic| first | (dsimp only; omega) | exact ⟨by omega, by omega⟩ | exact Or.inl ⟨by omega, by omega⟩ | exact Or.inr ⟨by omega, by omega⟩ | decide)
local macro_rules | `(tactic| walk_at "sq") => `(tactic| first | assumption | exact SqL.of (by assumption) | exact SqT.of (by assumption) | (refine L2.Same.seq (by assumption) ?_; walk_at "sq") | (refine L2.Same.seqT (by assumption) ?_; walk_at "sq") | exact Or.inl (by walk_at "sq") | exact Or.inr (by walk_at "sq"))
local macro_rules | `(tactic| walk_at "1") => `(tactic| first
  | refine ⟨_, rfl, iteT ?_⟩
  | refine ⟨_, rfl, iteF ?_⟩
  | refine ⟨_, rfl, ?_⟩
  | refine ⟨_, _, rfl, rfl, (by walk_at "side"), ?_⟩
  | refine ⟨_, _, rfl, rfl, ?_⟩
  | refine ⟨_, _, _, _, true, rfl, .ty _, .base (.int _), kit_ty (a := "int") (by decide +kernel), ?_⟩
  | refine ⟨_, _, _, _, false, rfl, .ty _, .base (.int _), kit_ty (a := "int") (by decide +kernel), ?_⟩
  | refine ⟨_, _, rfl, (by walk_at "sq"), ?_⟩
  | refine ⟨_, _, _, _, rfl, rfl, (by walk_at "sq"), (by first | rfl | assumption), ?_⟩
  | refine Or.inl ⟨_, _, _, _, rfl, rfl, (by walk_at "sq"), (by first | rfl | assumption), ?_⟩
  | refine Or.inr (Or.inl ⟨_, _, _, _, rfl, rfl, (by walk_at "sq"), (by first | rfl | assumption), ?_⟩)
  | refine ⟨_, _, rfl, Or.inl ⟨(by walk_at "sq"), ?_⟩⟩
  | refine ⟨rfl, ?_⟩
  | refine iteT ?_
  | refine iteF ?_
  | refine ⟨_, _, _, _, _, rfl, (by assumption), (by assumption), (by assumption), (by assumption), ?_⟩
  | refine Or.inl ⟨_, rfl, ?_⟩
  | refine ⟨_, _, rfl, (by walk_at "side"), ?_⟩
  | refine ⟨_, _, rfl, ?_⟩)
local macro_rules | `(tactic| walk_at "fld") => `(tactic| skip)
local macro_rules | `(tactic| walk_at "s") => `(tactic| repeat walk_at "1")
local macro_rules | `(tactic| walk_at "size") => `(tactic| first | exact Nat.le_of_ble_eq_true rfl | (simp only [List.length_map, List.length_append, List.length_cons, List.length_nil]; omega))
local macro_rules | `(tactic| walk_at "new") => `(tactic| (first | refine ⟨(by walk_at "size"), fun p hp => ?_⟩ | refine fun p hp => ?_); (generalize hq : upd _ p _ = H1); (obtain ⟨s, e⟩ := new_facts hp hq); clear hq)

theorem lk_first (pf pa : Addr) (m : Int) : (rowF pf pa m).lookup ("first" : Str) = some (.ref pf) := rfl
theorem lk_again (pf pa : Addr) (m : Int) : (rowF pf pa m).lookup ("again" : Str) = some (.ref pa) := rfl
theorem lk_more (pf pa : Addr) (m : Int) : (rowF pf pa m).lookup ("more" : Str) = some (.int m) := rfl
/-- what is asked of a row's parts -/
structure Parts (f a : List (Option Int)) (m : Int) : Prop where
  ne : a ≠ []
  lf : f.length < 500
  la : a.length < 500
  m0 : 0 ≤ m
  m1 : m < 2 ^ 30
def gt (xs : List (Option Int)) (i : Nat) : Option Int := (xs[i]?).join
/-- the n-th time -/
def tmR (f a : List (Option Int)) (m : Int) (n : Nat) : Option Int :=
  if n < f.length then gt f n else later1 (((n - f.length) / a.length : Nat) * m) (gt a ((n - f.length) % a.length))
theorem gt_of {xs : List (Option Int)} {i : Nat} (h : i < xs.length) : (xs.map ov)[i]? = some (ov (gt xs i)) := by
  rw [List.getElem?_map]
  unfold gt
  rw [List.getElem?_eq_getElem h]
  rfl
section
variable {P : Program} {w : World} {K : PySem.W.Frag} {mg : Str → Option Value} {base : Heap} {C : Addr}
abbrev s_Row_time : Stmt := inClass (topS 13) 3
theorem sc_Row_time : FnScope ["self", "n", "turns", "at", "time"] ["self", "n"] (defScope s_Row_time) := ⟨rfl, rfl, rfl, by decide +kernel, rfl, by decide +kernel, by decide +kernel⟩
def spTime (C : Addr) : Sp := fun vs H Q _ => ∃ (p : Addr) (f a : List (Option Int)) (m : Int) (n : Nat), vs = [.ref p, .int n] ∧ RowAt C H p f a m ∧ Parts f a m ∧ ∀ H', Same H H' → Q (ov (tmR f a m n)) H'
theorem ok_time {f1 : Addr} {fd : FuncData} (F : Fun K "time" "Row.time" s_Row_time f1 fd) (R : RowCls K mg C) (T : Txt mg) : FnOk P w K mg base CX0 1 f1 fd ["self", "n"] (spTime C) := by
  refine F.ok sc_Row_time (fun vs H Q E h => ?_) (fun cdv A outer s H vs Q E hr h => ?_)
  · obtain ⟨_, _, _, _, _, rfl, _⟩ := h
    rfl
  · obtain ⟨p, f, a, m, n, rfl, ⟨dx, pf, pa, h1, h2, h3⟩, ok, k⟩ := h
    have cl := R.cl
    have nF := R.nF
    have nA := R.nA
    have nM := R.nM
    have hl := lk_again pf pa m
    have hl2 := lk_more pf pa m
    have hl3 := lk_first pf pa m
    have l0 := List.length_pos_iff.mpr ok.ne
    have l1 := ok.la
    have m0 := ok.m0
    have m1 := ok.m1
    refine ⟨_, (pss_cons (ps_if (pt_cmpR op_lt (pv 1) (pe_callB call_len_seq (by rfl) T.len PySem.boot_len (pa_cons (pe_fld (pv 0) rfl) pa_nil)) (nomark _))
    (pss_one (ps_ret (pe_ix ix_tup (pe_fld (pv 0) rfl) (pv 1) (fun _ _ => rfl))))
    pss_nil)
  (pss_cons (ps_asg (pe_callB call_divmod (by rfl) T.divmod (by decide +kernel) (pa_cons (pe_op op_sub (pv 1) (pe_callB call_len_seq (by rfl) T.len PySem.boot_len (pa_cons (pe_fld (pv 0) rfl) pa_nil))) (pa_cons (pe_callB call_len_seq (by rfl) T.len PySem.boot_len (pa_cons (pe_fld (pv 0) rfl) pa_nil)) pa_nil))) (pg_tup (by rfl) (pgs_cons (pg_name (i := 2) sc_Row_time.nd rfl (Or.inl rfl)) (pgs_cons (pg_name (i := 3) sc_Row_time.nd rfl (Or.inl rfl)) pgs_nil))))
  (pss_cons (ps_set (i := 4) sc_Row_time.nd rfl (Or.inl rfl) (pe_ix ix_tup (pe_fld (pv 0) rfl) (pv 3) (fun _ _ => rfl)))
  (pss_one (ps_ret (pe_ifExp (pt_cmpR op_isN (pv 4) pe_non (nomark _)) pe_non (pe_op op_add (pv 4) (pe_op op_mul (pv 2) (pe_fld (pv 0) rfl))))))))), ?_⟩
    walk_at "s"
    rw [List.length_map]
    refine ite2 (fun c => ?_) (fun c => ?_)
    · have c' : n < f.length := by
        have := of_decide_eq_true c
        omega
      have h0 : atI (f.map ov) (n : Int) = some (ov (gt f n)) := atI_nat (gt_of c')
      walk_at "s"
      have e : tmR f a m n = gt f n := if_pos c'
      rw [← e]
      exact k _ (Same.refl _)
    · have c' : ¬ n < f.length := fun q => c (decide_eq_true (by omega))
      walk_at "s"
      rw [List.length_map, List.length_map]
      refine ⟨⟨by omega, by omega⟩, ?_⟩
      walk_at "new"
      rename_i p1 n1 H1 s1 e1
      walk_at "s"
      have h1' := s1 _ _ h1
      have h2' := s1 _ _ h2
      have h3' := s1 _ _ h3
      have en : (n : Int) - (f.length : Int) = ((n - f.length : Nat) : Int) := by omega
      have em : ((n : Int) - (f.length : Int)) % (a.length : Int) = (((n - f.length) % a.length : Nat) : Int) := by rw [en]; rfl
      have ed : ((n : Int) - (f.length : Int)) / (a.length : Int) = (((n - f.length) / a.length : Nat) : Int) := by rw [en]; rfl
      have lt : (n - f.length) % a.length < a.length := Nat.mod_lt _ l0
      walk_at "s"
      refine ⟨_, _, _, _, rfl, rfl, SqT.of h3', at_of em (gt_of lt), ?_⟩
      walk_at "s"
      have et : tmR f a m n = later1 (((n - f.length) / a.length : Nat) * m) (gt a ((n - f.length) % a.length)) := if_neg c'
      have k' := k _ s1
      rw [et] at k'
      cases hg : gt a ((n - f.length) % a.length) with
      | none =>
        rw [hg] at k'
        walk_at "s"
        exact k'
      | some x =>
        rw [hg] at k'
        walk_at "s"
        show Q (.int (x + (((n : Int) - (f.length : Int)) / (a.length : Int)) * m)) H1
        rw [ed]
        exact k'
end
end My

namespace My
open PySem PySem.Spec PyProof.Rows L2
local macro_rules | `(tactic| walk_at "side") => `(tactic| first | (dsimp only; omega) | exact ⟨by omega, by omega⟩ | exact Or.inl ⟨by omega, by omega⟩ | exact Or.inr ⟨by omega, by omega⟩ | decide)
local macro_rules | `(tactic| walk_at "sq") => `(tactic| first | assumption | exact SqL.of (by assumption) | exact SqT.of (by assumption) | (refine L2.Same.seq (by assumption) ?_; walk_at "sq") | (refine L2.Same.seqT (by assumption) ?_; walk_at "sq") | exact Or.inl (by walk_at "sq") | exact Or.inr (by walk_at "sq"))
local macro_rules | `(tactic| walk_at "1") => `(tactic| first
  | refine ⟨_, rfl, iteT ?_⟩
  | refine ⟨_, rfl, iteF ?_⟩
  | refine ⟨_, rfl, ?_⟩
  | refine ⟨_, _, rfl, rfl, (by walk_at "side"), ?_⟩
  | refine ⟨_, _, rfl, rfl, ?_⟩
  | refine ⟨_, _, _, _, true, rfl, .ty _, .base (.int _), kit_ty (a := "int") (by decide +kernel), ?_⟩
  | refine ⟨_, _, _, _, false, rfl, .ty _, .base (.int _), kit_ty (a := "int") (by decide +kernel), ?_⟩
  | refine ⟨_, _, rfl, (by walk_at "sq"), ?_⟩
  | refine ⟨_, _, _, _, rfl, rfl, (by walk_at "sq"), (by first | rfl | assumption), ?_⟩
  | refine Or.inl ⟨_, _, _, _, rfl, rfl, (by walk_at "sq"), (by first | rfl | assumption), ?_⟩
  | refine Or.inr (Or.inl ⟨_, _, _, _, rfl, rfl, (by walk_at "sq"), (by first | rfl | assumption), ?_⟩)
  | refine ⟨_, _, rfl, Or.inl ⟨(by walk_at "sq"), ?_⟩⟩
  | refine ⟨rfl, ?_⟩
  | refine iteT ?_
  | refine iteF ?_
  | refine ⟨_, _, _, _, _, rfl, (by assumption), (by assumption), (by assumption), (by assumption), ?_⟩
  | refine Or.inl ⟨_, rfl, ?_⟩
  | refine Or.inr ⟨_, rfl, ?_⟩
  | refine ⟨_, _, rfl, (by walk_at "side"), ?_⟩
  | refine ⟨_, _, rfl, ?_⟩)
local macro_rules | `(tactic| walk_at "fld") => `(tactic| skip)
local macro_rules | `(tactic| walk_at "s") => `(tactic| repeat walk_at "1")
local macro_rules | `(tactic| walk_at "size") => `(tactic| first | exact Nat.le_of_ble_eq_true rfl | (simp only [List.length_map, List.length_append, List.length_cons, List.length_nil]; omega))
local macro_rules | `(tactic| walk_at "new") => `(tactic| (first | refine ⟨(by walk_at "size"), fun p hp => ?_⟩ | refine fun p hp => ?_); (generalize hq : upd _ p _ = H1); (obtain ⟨s, e⟩ := new_facts hp hq); clear hq)

/-- two tuples of times compared -/
theorem rd_eqT {K : PySem.W.Frag} {H : Hp} {Q : VK} {p q : Addr} (xs ys : List (Option Int)) (h1 : SqT K H p (xs.map ov)) (h2 : SqT K H q (ys.map ov)) (k : Q (.bl (decide (xs = ys))) H) : rEqD K (.ref p) (.ref q) H Q :=
  ⟨_, _, .tup h1 (dpAll_ov xs), .tup h2 (dpAll_ov ys), shaped_t xs, shaped_t ys, by
    rw [show PyData.eqv (.tuple (xs.map od)) (.tuple (ys.map od)) = PyData.eqvAll (xs.map od) (ys.map od) from rfl, eqvAll_od]
    exact k⟩
/-- what isinstance and == ask of the class of rows -/
structure RowEq (K : PySem.W.Frag) (mg : Str → Option Value) (C : Addr) : Prop where
  g : mg "Row" = some (.ref C)
  ins : ∀ (H : Hp) (a dx : Addr) (fs : List (Str × V)), H a = some (.ins C dx fs) → TyX K H (.ref a) (.ref C)
  self : PySem.W.kitOne K (.ref C) (.ref C) = some true
  tup : PySem.W.kitOne K (.type "tuple") (.ref C) = some false
  str : PySem.W.kitOne K (.type "str") (.ref C) = some false
  nself : PySem.W.notFirst K C (.ref C) = true
  ntup : PySem.W.notFirst K C (.type "tuple") = true
  nstr : PySem.W.notFirst K C (.type "str") = true
  ne : PySem.W.findIn K (.ref C) "__ne__" = some (some (.builtin "object.__ne__"))
  mro : PySem.W.mroIn K C (.type "object") = some true
def wordO : Option Int → Str
  | none => "-"
  | some i => toString i
section
variable {P : Program} {w : World} {K : PySem.W.Frag} {mg : Str → Option Value} {base : Heap} {C : Addr}
abbrev s_word_of : Stmt := topS 19
theorem sc_word_of : FnScope ["thing"] ["thing"] (defScope s_word_of) := ⟨rfl, rfl, rfl, by decide +kernel, rfl, by decide +kernel, by decide +kernel⟩
def spWord : Sp := fun vs H Q _ => ∃ t : Option Int, vs = [ov t] ∧ (∀ i, t = some i → i.natAbs.log2 < 1920) ∧ Q (.str (wordO t)) H
theorem ok_word_of (D : Df K mg "_word_of" s_word_of ["thing"]) (mstr : mg "str" = none) : Own P w K mg base "_word_of" 1 ["thing"] spWord := by
  refine D.own sc_word_of (fun vs H Q E h => ?_) (fun fa cdv A outer s H vs Q E hr h => ?_)
  · obtain ⟨_, rfl, _⟩ := h
    rfl
  · obtain ⟨t, rfl, hz, k⟩ := h
    refine ⟨_, (pss_one (ps_ret (pe_ifExp (pt_cmpR op_isN (pv 0) pe_non (nomark _)) pe_str (pe_callTy call_str_int (by rfl) mstr (by decide +kernel) (pa_cons (pv 0) pa_nil))))), ?_⟩
    cases t with
    | none =>
      walk_at "s"
      exact k
    | some i =>
      walk_at "s"
      first | exact ⟨_, rfl, hz i rfl, k⟩ | exact ⟨hz i rfl, k⟩
/-- == of rows -/
abbrev s_Row_eq : Stmt := inClass (topS 13) 5
theorem sc_Row_eq : FnScope ["self", "other"] ["self", "other"] (defScope s_Row_eq) := ⟨rfl, rfl, rfl, by decide +kernel, rfl, by decide +kernel, by decide +kernel⟩
def spEqRow (K : PySem.W.Frag) (C : Addr) : Sp := fun vs H Q _ => ∃ (p : Addr) (f a : List (Option Int)) (m : Int) (y : V), vs = [.ref p, y] ∧ RowAt C H p f a m ∧
  ((∃ t, TyX K H y t ∧ PySem.W.kitOne K t (.ref C) = some false ∧ Q (.bl false) H) ∨
   (∃ (q : Addr) (f2 a2 : List (Option Int)) (m2 : Int), y = .ref q ∧ RowAt C H q f2 a2 m2 ∧ Q (.bl (decide (f = f2 ∧ a = a2 ∧ m = m2))) H))
theorem ok_eq {f1 : Addr} {fd : FuncData} (F : Fun K "__eq__" "Row.__eq__" s_Row_eq f1 fd) (R : RowCls K mg C) (T : Txt mg) (Z : RowEq K mg C) : FnOk P w K mg base CX0 1 f1 fd ["self", "other"] (spEqRow K C) := by
  refine F.ok sc_Row_eq (fun vs H Q E h => ?_) (fun cdv A outer s H vs Q E hr h => ?_)
  · obtain ⟨_, _, _, _, _, rfl, _⟩ := h
    rfl
  · obtain ⟨p, f, a, m, y, rfl, ⟨dx, pf, pa, h1, h2, h3⟩, k⟩ := h
    refine ⟨_, (pss_cons (ps_if (pt_not (pt_val (pe_callB call_isi (by rfl) T.isinstance (by decide +kernel) (pa_cons (pv 1) (pa_cons (pe_glob (v := .ref C) (by rfl) Z.g rfl) pa_nil)))))
    (pss_one (ps_ret pe_bl))
    pss_nil)
  (pss_one (ps_ret (pe_and (pe_cmpR (op_eqD hr.units) (pe_fld (pv 0) rfl) (pe_fld (pv 1) rfl) (nomark _)) (pe_and (pe_cmpR (op_eqD hr.units) (pe_fld (pv 0) rfl) (pe_fld (pv 1) rfl) (nomark _)) (pe_one (pe_cmpR op_eq (pe_fld (pv 0) rfl) (pe_fld (pv 1) rfl) (nomark _)))))))), ?_⟩
    have cl := R.cl
    have nF := R.nF
    have nA := R.nA
    have nM := R.nM
    have hl := lk_again pf pa m
    have hl2 := lk_more pf pa m
    have hl3 := lk_first pf pa m
    refine ⟨_, rfl, ?_⟩
    rcases k with ⟨t, ty, kt, k⟩ | ⟨q, f2, a2, m2, rfl, ⟨dx2, pf2, pa2, g1, g2, g3⟩, k⟩
    · refine ⟨_, _, _, _, false, rfl, .own _, ty, kt, ?_⟩
      walk_at "s"
      exact k
    · refine ⟨_, _, _, _, true, rfl, .own _, Z.ins _ _ _ _ g1, Z.self, ?_⟩
      have gl := lk_again pf2 pa2 m2
      have gl2 := lk_more pf2 pa2 m2
      have gl3 := lk_first pf2 pa2 m2
      walk_at "s"
      refine rd_eqT f f2 (SqT.of h2) (SqT.of g2) ?_
      by_cases e1 : f = f2
      · rw [decide_eq_true e1]
        walk_at "s"
        refine rd_eqT a a2 (SqT.of h3) (SqT.of g3) ?_
        by_cases e2 : a = a2
        · rw [decide_eq_true e2]
          walk_at "s"
          have e : decide (V.int m = V.int m2) = decide (f = f2 ∧ a = a2 ∧ m = m2) := by
            by_cases e3 : m = m2
            · subst e1 e2 e3
              simp
            · rw [decide_eq_false (fun z => e3 (V.int.inj z)), decide_eq_false (fun z => e3 z.2.2)]
          rw [e]
          exact k
        · rw [decide_eq_false e2]
          walk_at "s"
          rw [decide_eq_false (fun z => e2 z.2.1)] at k
          exact k
      · rw [decide_eq_false e1]
        walk_at "s"
        rw [decide_eq_false (fun z => e1 z.1)] at k
        exact k
end
end My

namespace My
open PySem PySem.Spec PyProof.Rows L2
local macro_rules | `(tactic| walk_at "side") => `(tactic| first | (dsimp only; omega) | exact ⟨by omega, by omega⟩ | exact Or.inl ⟨by omega, by omega⟩ | exact Or.inr ⟨by omega, by omega⟩ | decide)
local macro_rules | `(tactic| walk_at "sq") => `(tactic| first | assumption | exact SqL.of (by assumption) | exact SqT.of (by assumption) | (refine L2.Same.seq (by assumption) ?_; walk_at "sq") | (refine L2.Same.seqT (by assumption) ?_; walk_at "sq") | exact Or.inl (by walk_at "sq") | exact Or.inr (by walk_at "sq"))
local macro_rules | `(tactic| walk_at "1") => `(tactic| first
  | refine ⟨_, rfl, iteT ?_⟩
  | refine ⟨_, rfl, iteF ?_⟩
  | refine ⟨_, rfl, ?_⟩
  | refine ⟨_, _, rfl, rfl, (by walk_at "side"), ?_⟩
  | refine ⟨_, _, rfl, rfl, ?_⟩
  | refine ⟨_, _, _, _, true, rfl, .ty _, .base (.int _), kit_ty (a := "int") (by decide +kernel), ?_⟩
  | refine ⟨_, _, _, _, false, rfl, .ty _, .base (.int _), kit_ty (a := "int") (by decide +kernel), ?_⟩
  | refine ⟨_, _, rfl, (by walk_at "sq"), ?_⟩
  | refine ⟨_, _, _, _, rfl, rfl, (by walk_at "sq"), (by first | rfl | assumption), ?_⟩
  | refine Or.inl ⟨_, _, _, _, rfl, rfl, (by walk_at "sq"), (by first | rfl | assumption), ?_⟩
  | refine Or.inr (Or.inl ⟨_, _, _, _, rfl, rfl, (by walk_at "sq"), (by first | rfl | assumption), ?_⟩)
  | refine ⟨_, _, rfl, Or.inl ⟨(by walk_at "sq"), ?_⟩⟩
  | refine ⟨rfl, ?_⟩
  | refine iteT ?_
  | refine iteF ?_
  | refine ⟨_, _, _, _, _, rfl, (by assumption), (by assumption), (by assumption), (by assumption), ?_⟩
  | refine Or.inl ⟨_, rfl, ?_⟩
  | refine Or.inr ⟨_, rfl, ?_⟩
  | refine ⟨_, _, rfl, (by walk_at "side"), ?_⟩
  | refine ⟨_, _, rfl, ?_⟩)
local macro_rules | `(tactic| walk_at "fld") => `(tactic| skip)
local macro_rules | `(tactic| walk_at "s") => `(tactic| repeat walk_at "1")
local macro_rules | `(tactic| walk_at "size") => `(tactic| first | exact Nat.le_of_ble_eq_true rfl | (simp only [List.length_map, List.length_append, List.length_cons, List.length_nil]; omega))
local macro_rules | `(tactic| walk_at "new") => `(tactic| (first | refine ⟨(by walk_at "size"), fun p hp => ?_⟩ | refine fun p hp => ?_); (generalize hq : upd _ p _ = H1); (obtain ⟨s, e⟩ := new_facts hp hq); clear hq)

/-! texts of numbers -/
theorem toString_neg (n : Nat) : (toString (Int.negSucc n) : String) = "-" ++ toString (((n + 1 : Nat) : Int)) := rfl
theorem numLen {i : Int} {k : Nat} (hk : 0 < k) (h : i.natAbs < 10 ^ k) : (PySem.Str.ofString (toString i)).length ≤ k + 1 := by
  cases i with
  | ofNat n =>
    have h' : ((n : Nat) : Int) < 10 ^ k := by exact_mod_cast h
    exact Nat.le_succ_of_le (PyProof.Rows.toString_length_le (Int.natCast_nonneg n) hk h')
  | negSucc n =>
    have h' : (((n + 1 : Nat)) : Int) < 10 ^ k := by exact_mod_cast h
    have e := PyProof.Rows.toString_length_le (Int.natCast_nonneg (n + 1)) hk h'
    rw [PyProof.Rows.ofString_length] at e ⊢
    rw [toString_neg, String.toList_append, List.length_append]
    have : ("-" : String).toList.length = 1 := by decide
    omega
theorem wordLen {t : Option Int} (h : ∀ i, t = some i → i.natAbs < 10 ^ 20) : (wordO t).length ≤ 21 := by
  cases t with
  | none => exact (by decide : (PySem.Str.ofString "-").length ≤ 21)
  | some i => exact numLen (by decide) (h i rfl)
end My

namespace My
open PySem PySem.Spec PyProof.Rows L2
local macro_rules | `(tactic| walk_at "side") => `(tactic| first | (dsimp only; omega) | exact ⟨by omega, by omega⟩ | exact Or.inl ⟨by omega, by omega⟩ | exact Or.inr ⟨by omega, by omega⟩ | decide)
local macro_rules | `(tactic| walk_at "sq") => `(tactic| first | assumption | exact SqL.of (by assumption) | exact SqT.of (by assumption) | (refine L2.Same.seq (by assumption) ?_; walk_at "sq") | (refine L2.Same.seqT (by assumption) ?_; walk_at "sq") | exact Or.inl (by walk_at "sq") | exact Or.inr (by walk_at "sq"))
local macro_rules | `(tactic| walk_at "1") => `(tactic| first
  | refine ⟨_, rfl, iteT ?_⟩
  | refine ⟨_, rfl, iteF ?_⟩
  | refine ⟨_, rfl, ?_⟩
  | refine ⟨_, _, rfl, rfl, (by walk_at "side"), ?_⟩
  | refine ⟨_, _, rfl, rfl, ?_⟩
  | refine ⟨_, _, _, _, true, rfl, .ty _, .base (.int _), kit_ty (a := "int") (by decide +kernel), ?_⟩
  | refine ⟨_, _, _, _, false, rfl, .ty _, .base (.int _), kit_ty (a := "int") (by decide +kernel), ?_⟩
  | refine ⟨_, _, rfl, (by walk_at "sq"), ?_⟩
  | refine ⟨_, _, _, _, rfl, rfl, (by walk_at "sq"), (by first | rfl | assumption), ?_⟩
  | refine Or.inl ⟨_, _, _, _, rfl, rfl, (by walk_at "sq"), (by first | rfl | assumption), ?_⟩
  | refine Or.inr (Or.inl ⟨_, _, _, _, rfl, rfl, (by walk_at "sq"), (by first | rfl | assumption), ?_⟩)
  | refine ⟨_, _, rfl, Or.inl ⟨(by walk_at "sq"), ?_⟩⟩
  | refine ⟨rfl, ?_⟩
  | refine iteT ?_
  | refine iteF ?_
  | refine ⟨_, _, _, _, _, rfl, (by assumption), (by assumption), (by assumption), (by assumption), ?_⟩
  | refine Or.inl ⟨_, rfl, ?_⟩
  | refine Or.inr ⟨_, rfl, ?_⟩
  | refine ⟨_, _, rfl, (by walk_at "side"), ?_⟩
  | refine ⟨_, _, rfl, ?_⟩)
local macro_rules | `(tactic| walk_at "fld") => `(tactic| skip)
local macro_rules | `(tactic| walk_at "s") => `(tactic| repeat walk_at "1")
local macro_rules | `(tactic| walk_at "size") => `(tactic| first | exact Nat.le_of_ble_eq_true rfl | (simp only [List.length_map, List.length_append, List.length_cons, List.length_nil]; omega))
local macro_rules | `(tactic| walk_at "new") => `(tactic| (first | refine ⟨(by walk_at "size"), fun p hp => ?_⟩ | refine fun p hp => ?_); (generalize hq : upd _ p _ = H1); (obtain ⟨s, e⟩ := new_facts hp hq); clear hq)

/-- a row's text -/
def rowWords (f a : List (Option Int)) (m : Int) : List Str := f.map wordO ++ (("|" : Str) :: (a.map wordO ++ [("+" : Str), (toString m : String)]))
def rowText (f a : List (Option Int)) (m : Int) : Str := Txt.join " " (rowWords f a m)
/-- all numbers of a row are not too long -/
structure Small (f a : List (Option Int)) (m : Int) : Prop where
  lf : f.length < 500
  la : a.length < 500
  tm : ∀ x ∈ f ++ a, ∀ i, x = some i → i.natAbs < 10 ^ 20
  m0 : m.natAbs < 10 ^ 20
theorem log20 {n : Nat} (h : n < 10 ^ 20) : n.log2 < 1920 := by
  by_cases z : n = 0
  · subst z
    decide
  · exact (Nat.log2_lt z).mpr (Nat.lt_of_lt_of_le h (by decide))
theorem sum_le : ∀ (L : List Nat) (B : Nat), (∀ x ∈ L, x ≤ B) → L.sum ≤ B * L.length
  | [], _, _ => by simp
  | x :: L, B, h => by
    have ih := sum_le L B (fun y hy => h y (List.mem_cons_of_mem _ hy))
    have hx := h x (List.mem_cons_self ..)
    rw [List.sum_cons, List.length_cons, Nat.mul_succ]
    omega
theorem rowWords_len {f a : List (Option Int)} {m : Int} (S : Small f a m) : ∀ y ∈ rowWords f a m, y.length ≤ 21 := by
  intro y hy
  have ht := S.tm
  unfold rowWords at hy
  rcases List.mem_append.mp hy with h | h
  · obtain ⟨x, hx, rfl⟩ := List.mem_map.mp h
    exact wordLen (ht x (List.mem_append_left _ hx))
  · rcases List.mem_cons.mp h with rfl | h
    · exact (by decide : (PySem.Str.ofString "|").length ≤ 21)
    · rcases List.mem_append.mp h with h | h
      · obtain ⟨x, hx, rfl⟩ := List.mem_map.mp h
        exact wordLen (ht x (List.mem_append_right _ hx))
      · rcases List.mem_cons.mp h with rfl | h
        · exact (by decide : (PySem.Str.ofString "+").length ≤ 21)
        · obtain rfl := List.mem_singleton.mp h
          exact numLen (by decide) S.m0
theorem rowWords_size {f a : List (Option Int)} {m : Int} (S : Small f a m) : ((rowWords f a m).map (·.length)).sum + (rowWords f a m).length * (" " : Str).length ≤ 16777216 := by
  have h1 := sum_le ((rowWords f a m).map (·.length)) 21 (fun x hx => by
    obtain ⟨y, hy, rfl⟩ := List.mem_map.mp hx
    exact rowWords_len S y hy)
  have h2 : (rowWords f a m).length = f.length + a.length + 3 := by
    unfold rowWords
    simp only [List.length_append, List.length_map, List.length_cons, List.length_nil]
    omega
  have h3 : (" " : Str).length = 1 := by decide
  have := S.lf
  have := S.la
  rw [List.length_map, h2] at h1
  rw [h2, h3]
  omega
section
variable {P : Program} {w : World} {K : PySem.W.Frag} {mg : Str → Option Value} {base : Heap} {C : Addr}
abbrev s_Row_str : Stmt := inClass (topS 13) 6
theorem sc_Row_str : FnScope ["self", "first", "again", "thing"] ["self"] (defScope s_Row_str) := ⟨rfl, rfl, rfl, by decide +kernel, rfl, by decide +kernel, by decide +kernel⟩
def spStr (C : Addr) : Sp := fun vs H Q _ => ∃ (p : Addr) (f a : List (Option Int)) (m : Int), vs = [.ref p] ∧ RowAt C H p f a m ∧ Small f a m ∧ ∀ H', Same H H' → Q (.str (rowText f a m)) H'
theorem ok_str {f1 : Addr} {fd : FuncData} (F : Fun K "__str__" "Row.__str__" s_Row_str f1 fd) (R : RowCls K mg C) (mstr : mg "str" = none) (o_word_of : Own P w K mg base "_word_of" 1 ["thing"] spWord) : FnOk P w K mg base CX0 2 f1 fd ["self"] (spStr C) := by
  refine F.ok sc_Row_str (fun vs H Q E h => ?_) (fun cdv A outer s H vs Q E hr h => ?_)
  · obtain ⟨_, _, _, _, rfl, _⟩ := h
    rfl
  · obtain ⟨p, f, a, m, rfl, ⟨dx, pf, pa, h1, h2, h3⟩, S, k⟩ := h
    have h1000 : 1000 < sizeLine := small1000 (Nat.le_refl _)
    have cl := R.cl
    have nF := R.nF
    have nA := R.nA
    have nM := R.nM
    have hl := lk_again pf pa m
    have hl2 := lk_more pf pa m
    have hl3 := lk_first pf pa m
    have lf := S.lf
    have la := S.la
    refine ⟨_, (pss_cons (ps_setLc (i := 1) (own := [("thing", 3)]) (g := gName 3) (tt := tYes) rfl sc_Row_str.nd rfl rfl (sw_true rfl rfl rfl (by decide +kernel)) (pi_tup (pe_fld (pv 0) rfl)) (blkOk_by (own := [("thing", 3)]) (N := ["self", "first", "again", "thing"]) (sc := defScope s_Row_str) (by decide +kernel)) (fun _ _ _ _ _ => (pg_name (i := 3) sc_Row_str.nd rfl (Or.inl rfl))) (fun _ _ _ _ _ => pts_nil) (fun _ _ _ _ _ => (pe_own o_word_of (hr.mono (by decide)) (pa_cons (pv 3) pa_nil))))
  (pss_cons (ps_setLc (i := 2) (own := [("thing", 3)]) (g := gName 3) (tt := tYes) rfl sc_Row_str.nd rfl rfl (sw_true rfl rfl rfl (by decide +kernel)) (pi_tup (pe_fld (pv 0) rfl)) (blkOk_by (own := [("thing", 3)]) (N := ["self", "first", "again", "thing"]) (sc := defScope s_Row_str) (by decide +kernel)) (fun _ _ _ _ _ => (pg_name (i := 3) sc_Row_str.nd rfl (Or.inl rfl))) (fun _ _ _ _ _ => pts_nil) (fun _ _ _ _ _ => (pe_own o_word_of (hr.mono (by decide)) (pa_cons (pv 3) pa_nil))))
  (pss_one (ps_ret (pe_m1 PySem.F.slot_str_join PySem.F.type_str_join mt_join pe_str (pe_lst (StX.pa_star (pv 1) (pa_cons pe_str (StX.pa_star (pv 2) (pa_cons pe_str (pa_cons (pe_callTy call_str_int (by rfl) mstr (by decide +kernel) (pa_cons (pe_fld (pv 0) rfl) pa_nil)) pa_nil))))))))))), ?_⟩
    have step : ∀ (g : List (Option Int)) (L : Addr) (Hb : Hp), g.length < 500 → (∀ x ∈ g, ∀ i, x = some i → i.natAbs < 10 ^ 20) → ∀ (i : Nat) (x : V) (H'' : Hp), (g.map ov)[i]? = some x → Same Hb H'' → Hb L = none → H'' L = some (.lst (((g.take i).map wordO).map V.str)) → ∃ t : Option Int, x = ov t ∧ (∀ i, t = some i → i.natAbs.log2 < 1920) ∧ (((g.take i).map wordO).map V.str).length < sizeLine ∧
        Same Hb (upd H'' L (.lst ((((g.take i).map wordO).map V.str) ++ [V.str (wordO t)]))) ∧ (upd H'' L (.lst ((((g.take i).map wordO).map V.str) ++ [V.str (wordO t)]))) L = some (.lst (((g.take (i + 1)).map wordO).map V.str)) := by
      intro g L Hb lg hg i x H'' hi s1 nL e1
      obtain ⟨t, ht, rfl⟩ := get_map hi
      refine ⟨t, rfl, fun j hj => log20 (hg t (List.mem_of_getElem? ht) j hj), ?_, s1.upd1 nL, ?_⟩
      · rw [List.length_map, List.length_map, List.length_take]
        omega
      · rw [upd_same, take_succ_map wordO ht, List.map_append]
        rfl
    walk_at "s"
    refine ⟨⟨_, SqT.of h2⟩, fun L nL => lc_seq (seqIt_t (SqT.of h2)) (fun i H'' => Same H H'' ∧ H'' L = some (.lst (((f.take i).map wordO).map V.str))) ⟨same_upd nL, upd_same⟩ (fun i H'' q => q.1) ?_ ?_⟩
    · rintro i x H'' hi ⟨s1, e1⟩
      obtain ⟨t, rfl, hz, hl, fin⟩ := step f L H lf (fun x hx => S.tm x (List.mem_append_left _ hx)) i x H'' hi s1 nL e1
      walk_at "s"
      exact ⟨hz, _, e1, hl, fin⟩
    · rintro H1 ⟨s1, e1⟩
      rw [show (f.map ov).length = f.length by simp, List.take_length] at e1
      have h1' := s1 _ _ h1
      have h3' := s1 _ _ h3
      walk_at "s"
      refine ⟨⟨_, SqT.of h3'⟩, fun L2 nL2 => lc_seq (seqIt_t (SqT.of h3')) (fun i H'' => Same H1 H'' ∧ H'' L2 = some (.lst (((a.take i).map wordO).map V.str))) ⟨same_upd nL2, upd_same⟩ (fun i H'' q => q.1) ?_ ?_⟩
      · rintro i x H'' hi ⟨s2, e2⟩
        obtain ⟨t, rfl, hz, hl, fin⟩ := step a L2 H1 la (fun x hx => S.tm x (List.mem_append_right _ hx)) i x H'' hi s2 nL2 e2
        walk_at "s"
        exact ⟨hz, _, e2, hl, fin⟩
      · rintro H2 ⟨s2, e2⟩
        rw [show (a.map ov).length = a.length by simp, List.take_length] at e2
        have h1'' := s2 _ _ h1'
        have e1' := s2 _ _ e1
        refine ⟨⟨_, rfl⟩, ?_⟩
        refine ⟨_, rfl, _, _, rfl, Or.inr (SqL.of e1'), ?_⟩
        refine ⟨_, rfl, _, _, rfl, Or.inr (SqL.of e2), ?_⟩
        walk_at "s"
        refine ⟨log20 S.m0, ?_⟩
        walk_at "new"
        rename_i L3 nL3 H3 s3 e3
        refine ⟨_, _, rowWords f a m, rfl, rfl, Or.inl (SqL.of ?_), rowWords_size S, k _ (s1.trans (s2.trans s3))⟩
        rw [e3]
        unfold rowWords
        simp only [List.map_append, List.map_cons, List.map_nil, List.nil_append, List.cons_append, List.append_assoc, List.append_nil]
end
end My

namespace My
open PySem PySem.Spec PyProof.Rows L2
theorem later1_later1 (x y : Int) (z : Option Int) : later1 x (later1 y z) = later1 (y + x) z := by
  cases z with
  | none => rfl
  | some v =>
    show some (v + y + x) = some (v + (y + x))
    rw [Int.add_assoc]
theorem later1_zero (z : Option Int) : later1 0 z = z := by
  cases z with
  | none => rfl
  | some v =>
    show some (v + 0) = some v
    rw [Int.add_zero]
theorem gt_lt {xs : List (Option Int)} {i : Nat} (h : i < xs.length) : gt xs i = xs[i] := by
  unfold gt
  rw [List.getElem?_eq_getElem h]
  rfl
theorem get_some {xs : List (Option Int)} {i : Nat} (h : i < xs.length) : xs[i]? = some (gt xs i) := by
  rw [gt_lt h, List.getElem?_eq_getElem h]
/-- one turn of the again part -/
theorem fits_step {a : List (Option Int)} {m : Int} {t : Nat} (F : Fits a m t) {i : Nat} (h : i + t < a.length) : gt a (i + t) = later1 (m * t / a.length) (gt a i) := by
  have e := congrArg (fun l => l[i]?) F.eq
  simp only [List.getElem?_drop, List.getElem?_map] at e
  rw [List.getElem?_take_of_lt (by omega), Nat.add_comm t i] at e
  unfold gt
  rw [e]
  cases a[i]? with
  | none => rfl
  | some x => rfl
theorem fits_num {a : List (Option Int)} {m : Int} {t : Nat} (F : Fits a m t) {c : Nat} (hc : a.length = t * c) (h0 : 0 < a.length) : m = (m * t / a.length) * c := by
  have h1 : (m * t / a.length) * (a.length : Int) = m * t := by
    have := Int.mul_ediv_add_emod (m * t) a.length
    rw [F.num] at this
    rw [Int.mul_comm]
    omega
  have ht : (t : Int) ≠ 0 := by have := F.pos; omega
  generalize m * t / a.length = g at h1 ⊢
  have h2 : (g * c) * t = m * t := by
    rw [← h1, hc, Int.natCast_mul, Int.mul_assoc, Int.mul_comm (c : Int) (t : Int)]
  exact (Int.eq_of_mul_eq_mul_right ht h2).symm
theorem fits_iter {a : List (Option Int)} {m : Int} {t : Nat} (F : Fits a m t) (r : Nat) : ∀ j : Nat, r + j * t < a.length → gt a (r + j * t) = later1 (j * (m * t / a.length)) (gt a r)
  | 0, _ => by
    rw [Nat.zero_mul, Nat.add_zero, Int.natCast_zero, Int.zero_mul, later1_zero]
  | j + 1, h => by
    have e : r + (j + 1) * t = (r + j * t) + t := by rw [Nat.succ_mul, Nat.add_assoc]
    rw [e] at h ⊢
    rw [fits_step F h, fits_iter F r j (by omega), later1_later1]
    congr 1
    rw [show ((j + 1 : Nat) : Int) = (j : Int) + 1 by omega, Int.add_mul, Int.one_mul]
/-- the again part by its least turn -/
theorem again_least {a : List (Option Int)} {m : Int} {t : Nat} (F : Fits a m t) (h0 : 0 < a.length) (i : Nat) : later1 ((i / a.length : Nat) * m) (gt a (i % a.length)) = later1 ((i / t : Nat) * (m * t / a.length)) (gt a (i % t)) := by
  obtain ⟨c, hc⟩ := F.dvd
  have hm := fits_num F hc h0
  have ht := F.pos
  have hs : i % a.length = (i % a.length) % t + (i % a.length) / t * t := by
    have := Nat.mod_add_div (i % a.length) t
    rw [Nat.mul_comm t] at this
    exact this.symm
  have hlt := Nat.mod_lt i h0
  have e1 : (i % a.length) % t = i % t := by
    rw [hc]
    exact Nat.mod_mul_right_mod i t c
  have e2 : i / t = i / a.length * c + (i % a.length) / t := by
    have h1 : i = a.length * (i / a.length) + i % a.length := (Nat.div_add_mod i a.length).symm
    have h2 : a.length * (i / a.length) = t * (i / a.length * c) := by
      rw [show a.length * (i / a.length) = t * c * (i / a.length) by rw [← hc], Nat.mul_assoc, Nat.mul_comm c]
    have h3 : i = i % a.length + t * (i / a.length * c) := by omega
    calc i / t = (i % a.length + t * (i / a.length * c)) / t := by rw [← h3]
      _ = i % a.length / t + i / a.length * c := Nat.add_mul_div_left _ _ ht
      _ = _ := Nat.add_comm _ _
  have e3 : gt a (i % a.length) = later1 (((i % a.length) / t : Nat) * (m * t / a.length)) (gt a (i % t)) := by
    have h4 := fits_iter F ((i % a.length) % t) ((i % a.length) / t) (by rw [← hs]; exact hlt)
    rw [← hs, e1] at h4
    exact h4
  rw [e3, later1_later1]
  congr 1
  rw [e2, Int.natCast_add, Int.add_mul, Int.add_comm, Int.natCast_mul]
  congr 1
  have : (((i / a.length : Nat) : Int) * m) = ((i / a.length : Nat) : Int) * ((m * t / a.length) * c) := by rw [← hm]
  rw [this, Int.mul_assoc]
  congr 1
  exact Int.mul_comm _ _
section
variable {f a : List (Option Int)} {m : Int}
theorem tm_lt {n : Nat} (h : n < f.length + a.length) : tmR f a m n = gt (f ++ a) n := by
  unfold tmR gt
  by_cases c : n < f.length
  · rw [if_pos c, List.getElem?_append_left c]
  · have c2 : n - f.length < a.length := by omega
    rw [if_neg c, List.getElem?_append_right (by omega), Nat.div_eq_of_lt c2, Nat.mod_eq_of_lt c2, Int.natCast_zero, Int.zero_mul, later1_zero]
theorem tm_ge {t : Nat} (F : Fits a m t) (h0 : 0 < a.length) {n : Nat} (h : f.length ≤ n) : tmR f a m n = later1 (((n - f.length) / t : Nat) * (m * t / a.length)) (gt a ((n - f.length) % t)) := by
  unfold tmR
  rw [if_neg (by omega)]
  exact again_least F h0 _
/-- from b on all comes again -/
theorem tm_step {t b : Nat} (F : LeastTurn a m t) (S : ShortF (f ++ a) t (m * t / a.length) f.length b) (h0 : 0 < a.length) {n : Nat} (h : b ≤ n) : tmR f a m (n + t) = later1 (m * t / a.length) (tmR f a m n) := by
  have ht := F.fits.pos
  have hle := F.le
  by_cases c : n < f.length
  · have e := S.eq n h c
    have l1 : n + t < (f ++ a).length := by rw [List.length_append]; omega
    have l2 : n < (f ++ a).length := by rw [List.length_append]; omega
    rw [tm_lt (n := n + t) (by omega), tm_lt (n := n) (by omega)]
    rw [get_some l1, get_some l2] at e
    exact Option.some.inj e
  · rw [tm_ge F.fits h0 (n := n + t) (by omega), tm_ge F.fits h0 (n := n) (by omega), later1_later1]
    have e1 : (n + t - f.length) = (n - f.length) + t := by omega
    rw [e1, Nat.add_div_right _ ht, Nat.add_mod_right]
    congr 1
    rw [show (((n - f.length) / t + 1 : Nat) : Int) = (((n - f.length) / t : Nat) : Int) + 1 by omega, Int.add_mul, Int.one_mul]
theorem tm_iter {t b : Nat} (F : LeastTurn a m t) (S : ShortF (f ++ a) t (m * t / a.length) f.length b) (h0 : 0 < a.length) {n : Nat} (h : b ≤ n) : ∀ q : Nat, tmR f a m (n + q * t) = later1 (q * (m * t / a.length)) (tmR f a m n)
  | 0 => by rw [Nat.zero_mul, Nat.add_zero, Int.natCast_zero, Int.zero_mul, later1_zero]
  | q + 1 => by
    rw [show n + (q + 1) * t = (n + q * t) + t by rw [Nat.succ_mul, Nat.add_assoc], tm_step F S h0 (by omega), tm_iter F S h0 h q, later1_later1]
    congr 1
    rw [show ((q + 1 : Nat) : Int) = (q : Int) + 1 by omega, Int.add_mul, Int.one_mul]
theorem gt_take {xs : List (Option Int)} {b n : Nat} (h : n < b) : gt (xs.take b) n = gt xs n := by
  unfold gt
  rw [List.getElem?_take_of_lt h]
theorem gt_mid {xs : List (Option Int)} {b t n : Nat} (h : n < t) : gt ((xs.drop b).take t) n = gt xs (b + n) := by
  unfold gt
  rw [List.getElem?_take_of_lt h, List.getElem?_drop]
/-- what is made has the same times -/
theorem made_times {f' a' : List (Option Int)} {m' : Int} (M : MadeOf f a m f' a' m') (h0 : 0 < a.length) (n : Nat) : tmR f' a' m' n = tmR f a m n := by
  obtain ⟨t, b, F, S, rfl, rfl, rfl⟩ := M
  have ht := F.fits.pos
  have hle := F.le
  have hb := S.le
  have l1 : ((f ++ a).take b).length = b := by rw [List.length_take, List.length_append]; omega
  have l2 : (((f ++ a).drop b).take t).length = t := by rw [List.length_take, List.length_drop, List.length_append]; omega
  by_cases c : n < b
  · rw [show tmR f a m n = gt (f ++ a) n from tm_lt (by omega)]
    unfold tmR
    rw [l1, if_pos c, gt_take c]
  · have hr : (n - b) % t < t := Nat.mod_lt _ ht
    have e : n = (b + (n - b) % t) + (n - b) / t * t := by
      have := Nat.mod_add_div (n - b) t
      rw [Nat.mul_comm t] at this
      omega
    unfold tmR
    rw [l1, l2, if_neg c, gt_mid hr]
    have e2 := tm_iter F S h0 (n := b + (n - b) % t) (by omega) ((n - b) / t)
    rw [← e, tm_lt (n := b + (n - b) % t) (by omega)] at e2
    unfold tmR at e2
    exact e2.symm
end
end My

namespace My
open PySem PySem.Spec PyProof.Rows L2
def leO : Option Int → Option Int → Prop
  | none, _ => True
  | some _, none => False
  | some x, some y => x ≤ y
theorem leO_refl : ∀ x, leO x x
  | none => trivial
  | some x => Int.le_refl x
theorem leO_trans : ∀ {x y z}, leO x y → leO y z → leO x z
  | none, _, _, _, _ => trivial
  | some _, none, _, h, _ => h.elim
  | some _, some _, none, _, h => h.elim
  | some _, some _, some _, h1, h2 => Int.le_trans h1 h2
section
variable {f a : List (Option Int)} {m : Int}
theorem mono_all (h : ∀ n, leO (tmR f a m n) (tmR f a m (n + 1))) {i j : Nat} (hij : i ≤ j) : leO (tmR f a m i) (tmR f a m j) := by
  obtain ⟨d, rfl⟩ := Nat.le.dest hij
  induction d with
  | zero => exact leO_refl _
  | succ d ih => exact leO_trans (ih (by omega)) (h (i + d))
theorem tm_f {n : Nat} (h : n < f.length) : tmR f a m n = gt f n := if_pos h
theorem tm_a {r : Nat} (q : Nat) (h : r < a.length) : tmR f a m (f.length + (r + q * a.length)) = later1 (q * m) (gt a r) := by
  unfold tmR
  rw [if_neg (by omega), Nat.add_sub_cancel_left, Nat.add_mul_mod_self_right, Nat.mod_eq_of_lt h, Nat.add_mul_div_right _ _ (by omega), Nat.div_eq_of_lt h, Nat.zero_add]
end
end My

namespace My
open PySem PySem.Spec PyProof.Rows L2
local macro_rules | `(tactic| walk_at "wp_side") => `(tactic| first | (dsimp only; omega) | exact ⟨by omega, by omega⟩ | exact Or.inl ⟨by omega, by omega⟩ | exact Or.inr ⟨by omega, by omega⟩ | decide)
local macro_rules | `(tactic| walk_at "wp1") => `(tactic| first
  | refine ⟨_, rfl, ?_⟩
  | refine ⟨_, _, rfl, rfl, (by walk_at "wp_side"), ?_⟩
  | refine ⟨_, _, rfl, rfl, ?_⟩
  | refine ⟨_, _, _, _, rfl, rfl, SqL.of (by first | assumption | exact upd_same), rfl, ?_⟩
  | refine ⟨_, _, _, _, rfl, rfl, (by first | assumption | exact upd_same), rfl, ?_⟩
  | refine ⟨_, _, rfl, Or.inl (by assumption), ?_⟩
  | refine Or.inl ⟨_, rfl, ?_⟩)
local macro_rules | `(tactic| walk_at "wps") => `(tactic| repeat walk_at "wp1")
local macro_rules | `(tactic| walk_at "side") => `(tactic| first | (dsimp only; omega) | exact ⟨by omega, by omega⟩ | exact Or.inl ⟨by omega, by omega⟩ | exact Or.inr ⟨by omega, by omega⟩ | decide)
local macro_rules | `(tactic| walk_at "sq") => `(tactic| first | assumption | exact SqL.of (by assumption) | exact SqT.of (by assumption) | (refine L2.Same.seq (by assumption) ?_; walk_at "sq") | (refine L2.Same.seqT (by assumption) ?_; walk_at "sq") | exact Or.inl (by walk_at "sq") | exact Or.inr (by walk_at "sq"))
local macro_rules | `(tactic| walk_at "1") => `(tactic| first
  | refine ⟨_, rfl, iteT ?_⟩
  | refine ⟨_, rfl, iteF ?_⟩
  | refine ⟨_, rfl, ?_⟩
  | refine ⟨_, _, rfl, rfl, (by walk_at "side"), ?_⟩
  | refine ⟨_, _, rfl, rfl, ?_⟩
  | refine ⟨_, _, _, _, true, rfl, .ty _, .base (.int _), kit_ty (a := "int") (by decide +kernel), ?_⟩
  | refine ⟨_, _, _, _, false, rfl, .ty _, .base (.int _), kit_ty (a := "int") (by decide +kernel), ?_⟩
  | refine ⟨_, _, rfl, (by walk_at "sq"), ?_⟩
  | refine ⟨_, _, _, _, rfl, rfl, (by walk_at "sq"), (by first | rfl | assumption), ?_⟩
  | refine Or.inl ⟨_, _, _, _, rfl, rfl, (by walk_at "sq"), (by first | rfl | assumption), ?_⟩
  | refine Or.inr (Or.inl ⟨_, _, _, _, rfl, rfl, (by walk_at "sq"), (by first | rfl | assumption), ?_⟩)
  | refine ⟨_, _, rfl, Or.inl ⟨(by walk_at "sq"), ?_⟩⟩
  | refine ⟨rfl, ?_⟩
  | refine iteT ?_
  | refine iteF ?_
  | refine ⟨_, _, _, _, _, rfl, (by assumption), (by assumption), (by assumption), (by assumption), ?_⟩
  | refine Or.inl ⟨_, rfl, ?_⟩
  | refine ⟨_, _, rfl, (by walk_at "side"), ?_⟩
  | refine ⟨_, _, rfl, ?_⟩)
local macro_rules | `(tactic| walk_at "fld") => `(tactic| skip)
local macro_rules | `(tactic| walk_at "s") => `(tactic| repeat walk_at "1")
local macro_rules | `(tactic| walk_at "size") => `(tactic| first | exact Nat.le_of_ble_eq_true rfl | (simp only [List.length_map, List.length_append, List.length_cons, List.length_nil]; omega))
local macro_rules | `(tactic| walk_at "new") => `(tactic| (first | refine ⟨(by walk_at "size"), fun p hp => ?_⟩ | refine fun p hp => ?_); (generalize hq : upd _ p _ = H1); (obtain ⟨s, e⟩ := new_facts hp hq); clear hq)

/-- a box of draws -/
def BoxAt (H : Hp) (b : Addr) : Prop := ∃ x y z : Int, 0 ≤ x ∧ H b = some (.lst [.int x, .int y, .int z])
/-- all but the box stands -/
def Bx (b : Addr) (H H' : Hp) : Prop := ∀ c o, c ≠ b → H c = some o → H' c = some o
theorem Bx.of {b : Addr} {H H' : Hp} (s : Same H H') : Bx b H H' := fun c o _ e => s c o e
theorem Bx.trans {b : Addr} {H H1 H2 : Hp} (s : Bx b H H1) (t : Bx b H1 H2) : Bx b H H2 := fun c o n e => t c o n (s c o n e)
theorem Bx.upd {b : Addr} {H : Hp} {o : HO} : Bx b H (upd H b o) := fun c x n e => by
  rw [upd_ne n]
  exact e
theorem Bx.same {b : Addr} {H0 H H' : Hp} (s : Bx b H H') (h : Same H0 H) (n : H0 b = none) : Same H0 H' := fun c o e => s c o (ne_of_none e n) (h c o e)
theorem BoxAt.same {b : Addr} {H H' : Hp} (h : BoxAt H b) (s : Same H H') : BoxAt H' b := by
  obtain ⟨x, y, z, h0, h1⟩ := h
  exact ⟨x, y, z, h0, s _ _ h1⟩
theorem BoxAt.ne {b p : Addr} {H : Hp} (h : BoxAt H b) (n : H p = none) : p ≠ b := by
  obtain ⟨x, y, z, h0, h1⟩ := h
  exact (ne_of_none h1 n).symm
def spTake : Sp := fun vs H Q _ => ∃ (b : Addr) (m : Nat), vs = [.ref b, .int m] ∧ 0 < m ∧ m < 1073741824 ∧ BoxAt H b ∧ ∀ (H' : Hp) (n : Nat), n < m → Bx b H H' → BoxAt H' b → Q (.int n) H'
def spBox (K : PySem.W.Frag) : Sp := fun vs H Q _ => ∃ (a : Addr) (ns : List Int) (k : Nat), vs = [.ref a, .int k] ∧ SqL K H a (ns.map V.int) ∧ ns.length ≤ 63 ∧
  ∀ (H' : Hp) (p : Addr), Same H H' → H p = none → BoxAt H' p → Q (.ref p) H'
section
variable {P : Program} {w : World} {K : PySem.W.Frag} {mg : Str → Option Value} {base : Heap} {C : Addr}
abbrev s_law_take : Stmt := topS 27
theorem sc_law_take : FnScope ["box", "many", "digit", "one"] ["box", "many"] (defScope s_law_take) := ⟨rfl, rfl, rfl, by decide +kernel, rfl, by decide +kernel, by decide +kernel⟩
theorem ok_take (D : Df K mg "_law_take" s_law_take ["box", "many"]) (T : Txt mg) : Own P w K mg base "_law_take" 1 ["box", "many"] spTake := by
  refine D.own sc_law_take (fun vs H Q E h => ?_) (fun fa cdv A outer s H vs Q E hr h => ?_)
  · obtain ⟨_, _, rfl, _⟩ := h
    rfl
  · obtain ⟨b, m, rfl, m0, m1, ⟨x, y, z, x0, hb⟩, k⟩ := h
    have h8 : (0:Int) < 8191 ∧ (8191:Int) < 1073741824 := by decide
    have fin : ∀ (i x' y' z' : Int), 0 ≤ i → i < m → 0 ≤ x' → Q (.int i) (upd H b (.lst [.int x', .int y', .int z'])) := fun i x' y' z' i0 i1 hx => by
      have := k (upd H b (.lst [.int x', .int y', .int z'])) i.toNat (by omega) Bx.upd ⟨x', y', z', hx, upd_same⟩
      rw [show ((i.toNat : Nat) : Int) = i by omega] at this
      exact this
    refine ⟨_, (pss_cons (ps_if (pt_cmpR op_gt (pe_ix ix_list (pv 0) pe_int (fun _ _ => rfl)) pe_int (nomark _))
    (pss_cons (ps_set (i := 2) sc_law_take.nd rfl (Or.inl rfl) (pe_op op_mod (pe_callTy call_int1 (by rfl) T.int (by decide +kernel) (pa_cons (pe_ix ix_list (pv 0) pe_int (fun _ _ => rfl)) pa_nil)) (pv 1)))
      (pss_cons (ps_asg (pe_op op_fdiv (pe_ix ix_list (pv 0) pe_int (fun _ _ => rfl)) (pv 1)) (pg_sub (pv 0) pe_int set_list))
      (pss_one (ps_ret (pv 2)))))
    pss_nil)
  (pss_cons (ps_asg (pe_op op_add (pe_ix ix_list (pv 0) pe_int (fun _ _ => rfl)) pe_int) (pg_sub (pv 0) pe_int set_list))
  (pss_cons (ps_set (i := 3) sc_law_take.nd rfl (Or.inl rfl) (pe_op op_mod (pe_callTy call_int1 (by rfl) T.int (by decide +kernel) (pa_cons (pe_op op_mul (pe_op op_add (pe_ix ix_list (pv 0) pe_int (fun _ _ => rfl)) (pe_op op_mul pe_int (pe_ix ix_list (pv 0) pe_int (fun _ _ => rfl)))) pe_int) pa_nil)) pe_int))
  (pss_cons (ps_asg (pe_op op_add (pe_op op_mod (pe_callTy call_int1 (by rfl) T.int (by decide +kernel) (pa_cons (pe_op op_add (pe_op op_mul (pv 3) pe_int) pe_int) pa_nil)) pe_int) pe_int) (pg_sub (pv 0) pe_int set_list))
  (pss_one (ps_ret (pe_op op_mod (pe_callTy call_int1 (by rfl) T.int (by decide +kernel) (pa_cons (pe_op op_fdiv (pe_op op_add (pe_op op_mul (pv 3) pe_int) (pe_ix ix_list (pv 0) pe_int (fun _ _ => rfl))) pe_int) pa_nil)) (pv 1)))))))), ?_⟩
    walk_at "wps"
    refine ite2 (fun c => ?_) (fun c => ?_)
    · have c' : 0 < x := by simpa using c
      walk_at "wps"
      exact fin _ _ _ _ (Int.emod_nonneg _ (by omega)) (Int.emod_lt_of_pos _ (by omega)) (Int.ediv_nonneg x0 (by omega))
    · walk_at "wps"
      rw [upd_upd]
      exact fin _ _ _ _ (Int.emod_nonneg _ (by omega)) (Int.emod_lt_of_pos _ (by omega)) x0
abbrev s_law_box : Stmt := topS 26
theorem sc_law_box : FnScope ["script", "k", "cell", "seed"] ["script", "k"] (defScope s_law_box) := ⟨rfl, rfl, rfl, by decide +kernel, rfl, by decide +kernel, by decide +kernel⟩
theorem ok_box (D : Df K mg "_law_box" s_law_box ["script", "k"]) (T : Txt mg) : Own P w K mg base "_law_box" 1 ["script", "k"] (spBox K) := by
  refine D.own sc_law_box (fun vs H Q E h => ?_) (fun fa cdv A outer s H vs Q E hr h => ?_)
  · obtain ⟨_, _, _, rfl, _⟩ := h
    rfl
  · obtain ⟨a, ns, k, rfl, hS, hlen, kk⟩ := h
    refine ⟨_, (pss_cons (ps_set (i := 2) sc_law_box.nd rfl (Or.inl rfl) (pe_op op_add (pe_op op_mul pe_int (pv 1)) pe_int))
  (C8.pss_cut (ps_if (pt_cmpR op_lt (pv 1) (pe_callB call_len_seq (by rfl) T.len PySem.boot_len (pa_cons (pv 0) pa_nil)) (nomark _))
    (pss_one (ps_set (i := 2) sc_law_box.nd rfl (Or.inl rfl) (pe_callB call_abs (by rfl) T.abs (by decide +kernel) (pa_cons (pe_ix ix_list (pv 0) (pv 1) (fun _ _ => rfl)) pa_nil))))
    (pss_one (ps_if (pt_cmpR op_gt (pe_callB call_len_seq (by rfl) T.len PySem.boot_len (pa_cons (pv 0) pa_nil)) pe_int (nomark _))
        (pss_one (ps_set (i := 2) sc_law_box.nd rfl (Or.inl rfl) (pe_op op_add (pv 2) (pe_op op_mul (pe_op op_mod (pe_callTy call_int1 (by rfl) T.int (by decide +kernel) (pa_cons (pe_callB call_abs (by rfl) T.abs (by decide +kernel) (pa_cons (pe_callTy call_int1 (by rfl) T.int (by decide +kernel) (pa_cons (pe_ix ix_list (pv 0) (pe_op op_mod (pe_callTy call_int1 (by rfl) T.int (by decide +kernel) (pa_cons (pv 1) pa_nil)) (pe_callB call_len_seq (by rfl) T.len PySem.boot_len (pa_cons (pv 0) pa_nil))) (fun _ _ => rfl)) pa_nil)) pa_nil)) pa_nil)) pe_int) pe_int))))
        pss_nil)))
  (pss_cons (ps_set (i := 3) sc_law_box.nd rfl (Or.inl rfl) (pe_op op_add (pe_op op_mod (pe_callTy call_int1 (by rfl) T.int (by decide +kernel) (pa_cons (pe_op op_add (pe_op op_mul (pe_op op_mod (pe_callTy call_int1 (by rfl) T.int (by decide +kernel) (pa_cons (pv 2) pa_nil)) pe_int) pe_int) (pe_op op_mul pe_int (pv 1))) pa_nil)) pe_int) pe_int))
  (pss_one (ps_ret (pe_lst (pa_cons (pe_ix ix_list (pe_lst (pa_cons pe_int (pa_cons (pv 2) pa_nil))) (pe_callTy call_int1 (by rfl) T.int (by decide +kernel) (pa_cons (pe_cmpR op_ge (pv 2) (pe_op op_pow pe_int pe_int) (nomark _)) pa_nil)) (fun _ _ => rfl)) (pa_cons (pv 3) (pa_cons pe_int pa_nil))))))))), ?_⟩
    walk_at "wps"
    refine ⟨fun σ' H' => (∃ c : Int, σ' = [some (.ref a), some (.int (k : Int)), some (.int c), none]) ∧ H' = H, ?_, ?_⟩
    · walk_at "wps"
      have hl : ((ns.map V.int).length : Int) = (ns.length : Int) := by rw [List.length_map]
      refine ite2 (fun c => ?_) (fun c => ?_)
      · have c' : k < ns.length := by
          have c2 : (k : Int) < ((ns.map V.int).length : Int) := by simpa using c
          omega
        walk_at "wps"
        refine ⟨_, _, _, _, rfl, rfl, hS, atI_nat (List.getElem?_eq_getElem (by rw [List.length_map]; exact c')), ?_⟩
        rw [List.getElem_map]
        walk_at "wps"
        exact ⟨⟨_, rfl⟩, rfl⟩
      · walk_at "wps"
        refine ite2 (fun d => ?_) (fun d => ?_)
        · have d' : 0 < ns.length := by
            have d2 : (0 : Int) < ((ns.map V.int).length : Int) := by simpa using d
            omega
          have hm : (k : Int) % ((ns.map V.int).length : Int) = ((k % ns.length : Nat) : Int) := by rw [hl]; simp
          have lt : k % ns.length < (ns.map V.int).length := by rw [List.length_map]; exact Nat.mod_lt _ d'
          walk_at "wps"
          refine ⟨_, _, _, _, rfl, rfl, hS, at_of hm (List.getElem?_eq_getElem lt), ?_⟩
          rw [List.getElem_map]
          walk_at "wps"
          exact ⟨⟨_, rfl⟩, rfl⟩
        · exact ⟨⟨_, rfl⟩, rfl⟩
    · rintro σ' H' ⟨⟨c, rfl⟩, rfl⟩
      walk_at "wps"
      refine ⟨Nat.le_of_ble_eq_true rfl, fun q hq => ?_⟩
      walk_at "wps"
      refine Or.inr ⟨_, rfl, ?_⟩
      have s1 : Same H' (upd H' q (.lst [.int 0, .int c])) := fun b o e => by
        rw [upd_ne (ne_of_none e hq)]
        exact e
      have fin : ∀ x : Int, 0 ≤ x → ∀ y : Int, ∀ p : Addr, upd H' q (.lst [.int 0, .int c]) p = none → Q (.ref p) (upd (upd H' q (.lst [.int 0, .int c])) p (.lst [.int x, .int y, .int 0])) := fun x x0 y p hp =>
        kk _ p (s1.trans fun b o e => by rw [upd_ne (ne_of_none e hp)]; exact e) (s1.free hp) ⟨x, y, 0, x0, upd_same⟩
      by_cases big : (10 : Int) ^ (18 : Int).toNat ≤ c
      · rw [decide_eq_true big]
        refine ⟨_, _, _, _, rfl, rfl, SqL.of upd_same, rfl, ?_⟩
        walk_at "wps"
        exact ⟨Nat.le_of_ble_eq_true rfl, fun p hp => fin c (Int.le_trans (by decide) big) _ p hp⟩
      · rw [decide_eq_false big]
        refine ⟨_, _, _, _, rfl, rfl, SqL.of upd_same, rfl, ?_⟩
        walk_at "wps"
        exact ⟨Nat.le_of_ble_eq_true rfl, fun p hp => fin 0 (Int.le_refl _) _ p hp⟩
abbrev s_law_pick : Stmt := topS 28
theorem sc_law_pick : FnScope ["box", "some"] ["box", "some"] (defScope s_law_pick) := ⟨rfl, rfl, rfl, by decide +kernel, rfl, by decide +kernel, by decide +kernel⟩
def spPick : Sp := fun vs H Q _ => ∃ (b a : Addr) (xs : List V), vs = [.ref b, .ref a] ∧ BoxAt H b ∧ a ≠ b ∧ H a = some (.lst xs) ∧ 0 < xs.length ∧ xs.length < 1000 ∧ ∀ (H' : Hp) (x : V), x ∈ xs → Bx b H H' → BoxAt H' b → Q x H'
theorem ok_pick (D : Df K mg "_law_pick" s_law_pick ["box", "some"]) (T : Txt mg) (o_law_take : Own P w K mg base "_law_take" 1 ["box", "many"] spTake) : Own P w K mg base "_law_pick" 2 ["box", "some"] spPick := by
  refine D.own sc_law_pick (fun vs H Q E h => ?_) (fun fa cdv A outer s H vs Q E hr h => ?_)
  · obtain ⟨_, _, _, rfl, _⟩ := h
    rfl
  · obtain ⟨b, a, xs, rfl, hb, nab, ha, l0, l1, k⟩ := h
    refine ⟨_, (pss_one (ps_ret (pe_ix ix_list (pv 1) (pe_own o_law_take (hr.mono (by decide)) (pa_cons (pv 0) (pa_cons (pe_callB call_len_seq (by rfl) T.len PySem.boot_len (pa_cons (pv 1) pa_nil)) pa_nil))) (fun _ _ => rfl)))), ?_⟩
    walk_at "s"
    refine ⟨by omega, hb, fun H1 n hn s1 b1 => ?_⟩
    have ha1 := s1 _ _ nab ha
    have hx : xs[n]? = some xs[n] := List.getElem?_eq_getElem hn
    refine ⟨_, _, _, _, rfl, rfl, SqL.of ha1, atI_nat hx, ?_⟩
    exact k _ _ (List.getElem_mem hn) s1 b1
end
end My

namespace My
open PySem PySem.Spec PyProof.Rows L2
local macro_rules | `(tactic| walk_at "side") => `(tactic| first | (dsimp only; omega) | exact ⟨by omega, by omega⟩ | exact Or.inl ⟨by omega, by omega⟩ | exact Or.inr ⟨by omega, by omega⟩ | decide)
local macro_rules | `(tactic| walk_at "sq") => `(tactic| first | assumption | exact SqL.of (by assumption) | exact SqT.of (by assumption) | (refine L2.Same.seq (by assumption) ?_; walk_at "sq") | (refine L2.Same.seqT (by assumption) ?_; walk_at "sq") | exact Or.inl (by walk_at "sq") | exact Or.inr (by walk_at "sq"))
local macro_rules | `(tactic| walk_at "1") => `(tactic| first
  | refine ⟨_, rfl, iteT ?_⟩
  | refine ⟨_, rfl, iteF ?_⟩
  | refine ⟨_, rfl, ?_⟩
  | refine ⟨_, _, rfl, rfl, (by walk_at "side"), ?_⟩
  | refine ⟨_, _, rfl, rfl, ?_⟩
  | refine ⟨_, _, _, _, true, rfl, .ty _, .base (.int _), kit_ty (a := "int") (by decide +kernel), ?_⟩
  | refine ⟨_, _, _, _, false, rfl, .ty _, .base (.int _), kit_ty (a := "int") (by decide +kernel), ?_⟩
  | refine ⟨_, _, rfl, (by walk_at "sq"), ?_⟩
  | refine ⟨_, _, _, _, rfl, rfl, (by walk_at "sq"), (by first | rfl | assumption), ?_⟩
  | refine Or.inl ⟨_, _, _, _, rfl, rfl, (by walk_at "sq"), (by first | rfl | assumption), ?_⟩
  | refine Or.inr (Or.inl ⟨_, _, _, _, rfl, rfl, (by walk_at "sq"), (by first | rfl | assumption), ?_⟩)
  | refine ⟨_, _, rfl, Or.inl ⟨(by walk_at "sq"), ?_⟩⟩
  | refine ⟨rfl, ?_⟩
  | refine iteT ?_
  | refine iteF ?_
  | refine ⟨_, _, _, _, _, rfl, (by assumption), (by assumption), (by assumption), (by assumption), ?_⟩
  | refine Or.inl ⟨_, rfl, ?_⟩
  | refine ⟨_, _, rfl, (by walk_at "side"), ?_⟩
  | refine ⟨_, _, rfl, ?_⟩)
local macro_rules | `(tactic| walk_at "fld") => `(tactic| skip)
local macro_rules | `(tactic| walk_at "s") => `(tactic| repeat walk_at "1")
local macro_rules | `(tactic| walk_at "size") => `(tactic| first | exact Nat.le_of_ble_eq_true rfl | (simp only [List.length_map, List.length_append, List.length_cons, List.length_nil]; omega))
local macro_rules | `(tactic| walk_at "new") => `(tactic| (first | refine ⟨(by walk_at "size"), fun p hp => ?_⟩ | refine fun p hp => ?_); (generalize hq : upd _ p _ = H1); (obtain ⟨s, e⟩ := new_facts hp hq); clear hq)

/-- a told row: its three things, as lists and a number -/
def ToldAt (H : Hp) (p : Addr) (f a : List (Option Int)) (m : Int) : Prop := ∃ pf pa, H p = some (.tup [.ref pf, .ref pa, .int m]) ∧ H pf = some (.lst (f.map ov)) ∧ H pa = some (.lst (a.map ov))
theorem _root_.L2.Same.told {H H' : Hp} {p : Addr} {f a : List (Option Int)} {m : Int} (s : Same H H') (h : ToldAt H p f a m) : ToldAt H' p f a m := by
  obtain ⟨pf, pa, h1, h2, h3⟩ := h
  exact ⟨pf, pa, s _ _ h1, s _ _ h2, s _ _ h3⟩
section
variable {P : Program} {w : World} {K : PySem.W.Frag} {mg : Str → Option Value} {base : Heap} {C : Addr}
abbrev s_law_time : Stmt := topS 31
theorem sc_law_time : FnScope ["told", "n", "first", "again", "more", "thing"] ["told", "n"] (defScope s_law_time) := ⟨rfl, rfl, rfl, by decide +kernel, rfl, by decide +kernel, by decide +kernel⟩
def spTold : Sp := fun vs H Q _ => ∃ (p : Addr) (f a : List (Option Int)) (m : Int) (n : Nat), vs = [.ref p, .int n] ∧ ToldAt H p f a m ∧ Parts f a m ∧ Q (ov (tmR f a m n)) H
theorem ok_law_time (D : Df K mg "_law_time" s_law_time ["told", "n"]) (T : Txt mg) : Own P w K mg base "_law_time" 1 ["told", "n"] spTold := by
  refine D.own sc_law_time (fun vs H Q E h => ?_) (fun fa cdv A outer s H vs Q E hr h => ?_)
  · obtain ⟨_, _, _, _, _, rfl, _⟩ := h
    rfl
  · obtain ⟨p, f, a, m, n, rfl, ⟨pf, pa, h1, h2, h3⟩, ok, k⟩ := h
    have l0 := List.length_pos_iff.mpr ok.ne
    have l1 := ok.la
    have m0 := ok.m0
    have m1 := ok.m1
    refine ⟨_, (pss_cons (ps_asg (pv 0) (pg_tup (by rfl) (pgs_cons (pg_name (i := 2) sc_law_time.nd rfl (Or.inl rfl)) (pgs_cons (pg_name (i := 3) sc_law_time.nd rfl (Or.inl rfl)) (pgs_cons (pg_name (i := 4) sc_law_time.nd rfl (Or.inl rfl)) pgs_nil)))))
  (pss_cons (ps_if (pt_cmpR op_lt (pv 1) (pe_callB call_len_seq (by rfl) T.len PySem.boot_len (pa_cons (pv 2) pa_nil)) (nomark _))
    (pss_one (ps_ret (pe_ix ix_list (pv 2) (pv 1) (fun _ _ => rfl))))
    pss_nil)
  (pss_cons (ps_set (i := 5) sc_law_time.nd rfl (Or.inl rfl) (pe_ix ix_list (pv 3) (pe_op op_mod (pe_op op_sub (pv 1) (pe_callB call_len_seq (by rfl) T.len PySem.boot_len (pa_cons (pv 2) pa_nil))) (pe_callB call_len_seq (by rfl) T.len PySem.boot_len (pa_cons (pv 3) pa_nil))) (fun _ _ => rfl)))
  (pss_one (ps_ret (pe_ifExp (pt_cmpR op_isN (pv 5) pe_non (nomark _)) pe_non (pe_op op_add (pv 5) (pe_op op_mul (pe_op op_fdiv (pe_op op_sub (pv 1) (pe_callB call_len_seq (by rfl) T.len PySem.boot_len (pa_cons (pv 2) pa_nil))) (pe_callB call_len_seq (by rfl) T.len PySem.boot_len (pa_cons (pv 3) pa_nil))) (pv 4))))))))), ?_⟩
    walk_at "s"
    rw [List.length_map]
    refine ite2 (fun c => ?_) (fun c => ?_)
    · have c' : n < f.length := by
        have := of_decide_eq_true c
        omega
      have h0 : atI (f.map ov) (n : Int) = some (ov (gt f n)) := atI_nat (gt_of c')
      walk_at "s"
      have e : tmR f a m n = gt f n := if_pos c'
      rw [e] at k
      exact k
    · have c' : ¬ n < f.length := fun q => c (decide_eq_true (by omega))
      have en : (n : Int) - (f.length : Int) = ((n - f.length : Nat) : Int) := by omega
      have em : ((n : Int) - (f.length : Int)) % (a.length : Int) = (((n - f.length) % a.length : Nat) : Int) := by rw [en]; rfl
      have ed : ((n : Int) - (f.length : Int)) / (a.length : Int) = (((n - f.length) / a.length : Nat) : Int) := by rw [en]; rfl
      have lt : (n - f.length) % a.length < a.length := Nat.mod_lt _ l0
      have lla : (a.map ov).length = a.length := List.length_map ..
      have llf : (f.map ov).length = f.length := List.length_map ..
      have et : tmR f a m n = later1 (((n - f.length) / a.length : Nat) * m) (gt a ((n - f.length) % a.length)) := if_neg c'
      rw [et] at k
      walk_at "s"
      refine ⟨_, _, _, _, rfl, rfl, SqL.of h3, at_of (by show ((n : Int) - ((f.map ov).length : Int)) % ((a.map ov).length : Int) = _; rw [llf, lla]; exact em) (gt_of lt), ?_⟩
      walk_at "s"
      cases hg : gt a ((n - f.length) % a.length) with
      | none =>
        rw [hg] at k
        walk_at "s"
        exact k
      | some x =>
        rw [hg] at k
        walk_at "s"
        show Q (.int (x + (((n : Int) - ((f.map ov).length : Int)) / ((a.map ov).length : Int)) * m)) H
        rw [llf, lla, ed]
        exact k
abbrev s_law_times : Stmt := topS 32
theorem sc_law_times : FnScope ["told", "many", "n"] ["told", "many"] (defScope s_law_times) := ⟨rfl, rfl, rfl, by decide +kernel, rfl, by decide +kernel, by decide +kernel⟩
def spTimes : Sp := fun vs H Q _ => ∃ (p : Addr) (f a : List (Option Int)) (m : Int) (n : Nat), vs = [.ref p, .int n] ∧ ToldAt H p f a m ∧ Parts f a m ∧ n < 1000 ∧ ∀ H' q, Same H H' → H q = none → H' q = some (.lst (((List.range n).map (tmR f a m)).map ov)) → Q (.ref q) H'
theorem ok_law_times (D : Df K mg "_law_times" s_law_times ["told", "many"]) (T : Txt mg) (o_law_time : Own P w K mg base "_law_time" 1 ["told", "n"] spTold) : Own P w K mg base "_law_times" 2 ["told", "many"] spTimes := by
  refine D.own sc_law_times (fun vs H Q E h => ?_) (fun fa cdv A outer s H vs Q E hr h => ?_)
  · obtain ⟨_, _, _, _, _, rfl, _⟩ := h
    rfl
  · obtain ⟨p, f, a, m, n, rfl, hT, ok, hn, k⟩ := h
    have h1000 : 1000 < sizeLine := small1000 (Nat.le_refl _)
    refine ⟨_, (pss_one (ps_ret (pe_lc (own := [("n", 2)]) (g := gName 2) (tt := tYes) rfl sc_law_times.nd (pi_range1 (by rfl) T.range (pa_cons (pv 1) pa_nil)) (blkOk_by (own := [("n", 2)]) (N := ["told", "many", "n"]) (sc := defScope s_law_times) (by decide +kernel)) (fun _ _ _ _ _ => (pg_name (i := 2) sc_law_times.nd rfl (Or.inl rfl))) (fun _ _ _ _ _ => pts_nil) (fun _ _ _ _ _ => (pe_own o_law_time (hr.mono (by decide)) (pa_cons (pv 0) (pa_cons (pv 2) pa_nil))))))), ?_⟩
    walk_at "s"
    refine ⟨by omega, by omega, fun L nL => lc_range (lo := 0) (n := n) (fun i H' => Same H H' ∧ H' L = some (.lst (((List.range i).map (tmR f a m)).map ov))) ⟨same_upd nL, upd_same⟩ ?_ ?_⟩
    · rintro i H' hi ⟨s1, e1⟩
      walk_at "s"
      refine ⟨p, f, a, m, i, by rw [Int.zero_add]; rfl, s1.told hT, ok, ?_⟩
      have hz : (((List.range i).map (tmR f a m)).map ov).length < sizeLine := by
        rw [List.length_map, List.length_map, List.length_range]
        omega
      refine ⟨_, e1, hz, s1.upd1 nL, ?_⟩
      rw [upd_same, List.range_succ, List.map_append, List.map_append]
      rfl
    · rintro H' ⟨s1, e1⟩
      exact k _ _ s1 nL e1
abbrev s_law_made : Stmt := topS 33
theorem sc_law_made : FnScope ["told"] ["told"] (defScope s_law_made) := ⟨rfl, rfl, rfl, by decide +kernel, rfl, by decide +kernel, by decide +kernel⟩
def spMade (C : Addr) : Sp := fun vs H Q _ => ∃ (p : Addr) (f a : List (Option Int)) (m : Int), vs = [.ref p] ∧ ToldAt H p f a m ∧ OkRow f a m ∧ Parts f a m ∧ ∀ H' q f' a' m', Same H H' → H q = none → RowAt C H' q f' a' m' → MadeOf f a m f' a' m' → Q (.ref q) H'
theorem ok_law_made (D : Df K mg "_law_made" s_law_made ["told"]) (o_Row : Mks P w K mg base "Row" C 4 ["self", "first", "again", "more"] (spInit C)) : Own P w K mg base "_law_made" 6 ["told"] (spMade C) := by
  refine D.own sc_law_made (fun vs H Q E h => ?_) (fun fa cdv A outer s H vs Q E hr h => ?_)
  · obtain ⟨_, _, _, _, rfl, _⟩ := h
    rfl
  · obtain ⟨p, f, a, m, rfl, ⟨pf, pa, h1, h2, h3⟩, ok, pt, k⟩ := h
    refine ⟨_, (pss_one (ps_ret (pe_mks o_Row (hr.mono (by decide)) (pa_cons (pe_ix ix_tup (pv 0) pe_int (fun _ _ => rfl)) (pa_cons (pe_ix ix_tup (pv 0) pe_int (fun _ _ => rfl)) (pa_cons (pe_ix ix_tup (pv 0) pe_int (fun _ _ => rfl)) pa_nil)))))), ?_⟩
    walk_at "s"
    intro x dx nx ndx nex
    have sx : Same H (upd (upd H dx (.own x)) x (.ins C dx [])) := fun b o e => by
      rw [upd_ne (ne_of_none e nx), upd_ne (ne_of_none e ndx)]
      exact e
    refine ⟨H, x, dx, pf, pa, f, a, m, rfl, nx, sx, upd_same, Or.inl h2, Or.inl h3, ok, pt.lf, pt.la, pt.m0, by have := pt.m1; omega, fun H' f' a' m' s1 r1 mo => ⟨rfl, ?_⟩⟩
    exact k _ _ _ _ _ s1 nx r1 mo
end
end My

namespace My
open PySem PySem.Spec PyProof.Rows L2
local macro_rules | `(tactic| walk_at "side") => `(tactic| first | (dsimp only; omega) | exact ⟨by omega, by omega⟩ | exact Or.inl ⟨by omega, by omega⟩ | exact Or.inr ⟨by omega, by omega⟩ | decide)
local macro_rules | `(tactic| walk_at "sq") => `(tactic| first | assumption | exact SqL.of (by assumption) | exact SqT.of (by assumption) | (refine L2.Same.seq (by assumption) ?_; walk_at "sq") | (refine L2.Same.seqT (by assumption) ?_; walk_at "sq") | exact Or.inl (by walk_at "sq") | exact Or.inr (by walk_at "sq"))
local macro_rules | `(tactic| walk_at "1") => `(tactic| first
  | refine ⟨_, rfl, iteT ?_⟩
  | refine ⟨_, rfl, iteF ?_⟩
  | refine ⟨_, rfl, ?_⟩
  | refine ⟨_, _, rfl, rfl, (by walk_at "side"), ?_⟩
  | refine ⟨_, _, rfl, rfl, ?_⟩
  | refine ⟨_, _, _, _, true, rfl, .ty _, .base (.int _), kit_ty (a := "int") (by decide +kernel), ?_⟩
  | refine ⟨_, _, _, _, false, rfl, .ty _, .base (.int _), kit_ty (a := "int") (by decide +kernel), ?_⟩
  | refine ⟨_, _, rfl, (by walk_at "sq"), ?_⟩
  | refine ⟨_, _, _, _, rfl, rfl, (by walk_at "sq"), (by first | rfl | assumption), ?_⟩
  | refine Or.inl ⟨_, _, _, _, rfl, rfl, (by walk_at "sq"), (by first | rfl | assumption), ?_⟩
  | refine Or.inr (Or.inl ⟨_, _, _, _, rfl, rfl, (by walk_at "sq"), (by first | rfl | assumption), ?_⟩)
  | refine ⟨_, _, rfl, Or.inl ⟨(by walk_at "sq"), ?_⟩⟩
  | refine ⟨rfl, ?_⟩
  | refine iteT ?_
  | refine iteF ?_
  | refine ⟨_, _, _, _, _, rfl, (by assumption), (by assumption), (by assumption), (by assumption), ?_⟩
  | refine Or.inl ⟨_, rfl, ?_⟩
  | refine Or.inr ⟨_, rfl, ?_⟩
  | refine ⟨_, _, rfl, (by walk_at "side"), ?_⟩
  | refine ⟨_, _, rfl, ?_⟩)
local macro_rules | `(tactic| walk_at "fld") => `(tactic| skip)
local macro_rules | `(tactic| walk_at "s") => `(tactic| repeat walk_at "1")
local macro_rules | `(tactic| walk_at "size") => `(tactic| first | exact Nat.le_of_ble_eq_true rfl | (simp only [List.length_map, List.length_append, List.length_cons, List.length_nil]; omega))
local macro_rules | `(tactic| walk_at "new") => `(tactic| (first | refine ⟨(by walk_at "size"), fun p hp => ?_⟩ | refine fun p hp => ?_); (generalize hq : upd _ p _ = H1); (obtain ⟨s, e⟩ := new_facts hp hq); clear hq)

/-- rising, within bounds -/
structure Up (lo : Int) (L : List Int) (h : Int) : Prop where
  asc : L.Pairwise (· ≤ ·)
  bd : ∀ x ∈ L, lo ≤ x ∧ x ≤ h
theorem Up.app {lo h h' : Int} {L : List Int} (u : Up lo L h) (h0 : lo ≤ h) (h1 : h ≤ h') : Up lo (L ++ [h]) h' := by
  refine ⟨List.pairwise_append.mpr ⟨u.asc, List.pairwise_singleton _ _, fun x hx y hy => ?_⟩, fun x hx => ?_⟩
  · rw [List.mem_singleton.mp hy]
    exact (u.bd x hx).2
  · rcases List.mem_append.mp hx with q | q
    · have := u.bd x q
      exact ⟨this.1, by omega⟩
    · rw [List.mem_singleton.mp q]
      exact ⟨h0, h1⟩
/-- what a drawn row is -/
structure Shape (f a : List (Option Int)) (m : Int) : Prop where
  ex : ∃ (nn : Nat) (fl al : List Int) (lo hi : Int), f = List.replicate nn none ++ fl.map some ∧ a = al.map some ∧ (fl ++ al).Pairwise (· ≤ ·) ∧ al.head? = some lo ∧ al.getLast? = some hi ∧ hi - lo ≤ m ∧ m ≤ hi - lo + 4 ∧ nn ≤ 2 ∧ fl.length ≤ 3 ∧ al.length ≤ 3 ∧ (∀ x ∈ fl ++ al, -4 ≤ x ∧ x ≤ 40)
def ToldB (b : Addr) (H : Hp) (p : Addr) (f a : List (Option Int)) (m : Int) : Prop := ∃ pf pa, p ≠ b ∧ pf ≠ b ∧ pa ≠ b ∧ H p = some (.tup [.ref pf, .ref pa, .int m]) ∧ H pf = some (.lst (f.map ov)) ∧ H pa = some (.lst (a.map ov))
theorem ToldB.told {b : Addr} {H : Hp} {p : Addr} {f a : List (Option Int)} {m : Int} (h : ToldB b H p f a m) : ToldAt H p f a m := by
  obtain ⟨pf, pa, _, _, _, h1, h2, h3⟩ := h
  exact ⟨pf, pa, h1, h2, h3⟩
theorem ToldB.bx {b : Addr} {H H' : Hp} {p : Addr} {f a : List (Option Int)} {m : Int} (h : ToldB b H p f a m) (s : Bx b H H') : ToldB b H' p f a m := by
  obtain ⟨pf, pa, n1, n2, n3, h1, h2, h3⟩ := h
  exact ⟨pf, pa, n1, n2, n3, s _ _ n1 h1, s _ _ n2 h2, s _ _ n3 h3⟩
theorem ov_some (L : List Int) : L.map V.int = (L.map some).map ov := by
  rw [List.map_map]
  rfl
section
variable {P : Program} {w : World} {K : PySem.W.Frag} {mg : Str → Option Value} {base : Heap} {C : Addr}
abbrev s_law_row : Stmt := topS 30
theorem sc_law_row : FnScope ["box", "is_low", "here", "first", "turn", "again"] ["box", "is_low"] (defScope s_law_row) := ⟨rfl, rfl, rfl, by decide +kernel, rfl, by decide +kernel, by decide +kernel⟩
def spRow : Sp := fun vs H Q _ => ∃ (b : Addr) (low : Bool), vs = [.ref b, .bl low] ∧ BoxAt H b ∧ ∀ H' p f a m, Bx b H H' → BoxAt H' b → H p = none → ToldB b H' p f a m → Shape f a m → Q (.ref p) H'
theorem ok_law_row (D : Df K mg "_law_row" s_law_row ["box", "is_low"]) (T : Txt mg) (o_law_take : Own P w K mg base "_law_take" 1 ["box", "many"] spTake) (o_law_pick : Own P w K mg base "_law_pick" 2 ["box", "some"] spPick) : Own P w K mg base "_law_row" 3 ["box", "is_low"] spRow := by
  refine D.own sc_law_row (fun vs H Q E h => ?_) (fun fa cdv A outer s H vs Q E hr h => ?_)
  · obtain ⟨_, _, rfl, _⟩ := h
    rfl
  · obtain ⟨b, low, rfl, hb, k⟩ := h
    have h1000 : 1000 < sizeLine := small1000 (Nat.le_refl _)
    refine ⟨_, (pss_cons (ps_set (i := 2) sc_law_row.nd rfl (Or.inl rfl) (pe_op op_sub (pe_own o_law_take (hr.mono (by decide)) (pa_cons (pv 0) (pa_cons pe_int pa_nil))) (pe_op op_mul pe_int (pe_callTy call_int1 (by rfl) T.int (by decide +kernel) (pa_cons (pv 1) pa_nil)))))
  (pss_cons (ps_set (i := 3) sc_law_row.nd rfl (Or.inl rfl) (pe_lst pa_nil))
  (pss_cons (ps_for PassesOwn.never rfl (pi_range1 (by rfl) T.range (pa_cons (pe_own o_law_take (hr.mono (by decide)) (pa_cons (pv 0) (pa_cons pe_int pa_nil))) pa_nil)) (pg_name (i := 4) sc_law_row.nd rfl (Or.inl rfl))
    (pss_cons (ps_expr (pe_bm PySem.F.plainAttrs_list PySem.F.slot_list_append PySem.F.type_list_append mt_append (pv 3) (pa_cons (pv 2) pa_nil)))
      (pss_one (ps_set (i := 2) sc_law_row.nd rfl (Or.inl rfl) (pe_op op_add (pv 2) (pe_own o_law_pick (hr.mono (by decide)) (pa_cons (pv 0) (pa_cons (pe_lst (pa_cons pe_int (pa_cons pe_int (pa_cons pe_int (pa_cons pe_int pa_nil))))) pa_nil))))))))
  (C8.pss_cut (ps_if (pt_cmpR op_eq (pe_own o_law_take (hr.mono (by decide)) (pa_cons (pv 0) (pa_cons pe_int pa_nil))) pe_int (nomark _))
    (pss_one (ps_set (i := 3) sc_law_row.nd rfl (Or.inl rfl) (pe_op op_cat (pe_op op_rep (pe_lst (pa_cons pe_non pa_nil)) (pe_op op_add pe_int (pe_own o_law_take (hr.mono (by decide)) (pa_cons (pv 0) (pa_cons pe_int pa_nil))))) (pv 3))))
    pss_nil)
  (pss_cons (ps_set (i := 5) sc_law_row.nd rfl (Or.inl rfl) (pe_lst pa_nil))
  (pss_cons (ps_for PassesOwn.never rfl (pi_range1 (by rfl) T.range (pa_cons (pe_op op_add pe_int (pe_own o_law_take (hr.mono (by decide)) (pa_cons (pv 0) (pa_cons pe_int pa_nil)))) pa_nil)) (pg_name (i := 4) sc_law_row.nd rfl (Or.inl rfl))
    (pss_cons (ps_expr (pe_bm PySem.F.plainAttrs_list PySem.F.slot_list_append PySem.F.type_list_append mt_append (pv 5) (pa_cons (pv 2) pa_nil)))
      (pss_one (ps_set (i := 2) sc_law_row.nd rfl (Or.inl rfl) (pe_op op_add (pv 2) (pe_own o_law_pick (hr.mono (by decide)) (pa_cons (pv 0) (pa_cons (pe_lst (pa_cons pe_int (pa_cons pe_int (pa_cons pe_int (pa_cons pe_int pa_nil))))) pa_nil))))))))
  (pss_one (ps_ret (pe_tup (pa_cons (pv 3) (pa_cons (pv 5) (pa_cons (pe_op op_add (pe_op op_sub (pe_ix ix_list (pv 5) (pe_un un_neg pe_int) (fun _ _ => rfl)) (pe_ix ix_list (pv 5) pe_int (fun _ _ => rfl))) (pe_own o_law_take (hr.mono (by decide)) (pa_cons (pv 0) (pa_cons pe_int pa_nil)))) pa_nil)))))))))))), ?_⟩
    walk_at "s"
    refine ⟨by decide, hb, fun H1 n0 hn0 s1 b1 => ?_⟩
    have hn0' : n0 < 7 := hn0
    walk_at "s"
    have hlow : (0 : Int) ≤ (if low = true then 1 else 0) ∧ ((if low = true then 1 else 0 : Int)) ≤ 1 := by cases low <;> decide
    generalize hl : (if low = true then (1 : Int) else 0) = l0 at hlow ⊢
    have hs0 : -4 ≤ (n0 : Int) - 4 * l0 ∧ (n0 : Int) - 4 * l0 ≤ 6 := ⟨by omega, by omega⟩
    generalize hst : (n0 : Int) - 4 * l0 = st at hs0
    walk_at "new"
    rename_i pF nF H2 s2 e2
    have nFb : pF ≠ b := b1.ne nF
    have b2 := b1.same s2
    walk_at "s"
    refine ⟨by decide, b2, fun H3 n1 hn1 s3 b3 => ?_⟩
    have hn1' : n1 < 4 := hn1
    have e3 := s3 _ _ nFb e2
    have S3 : Bx b H H3 := s1.trans ((Bx.of s2).trans s3)
    have nFH : H pF = none := by
      cases q : H pF with
      | none => rfl
      | some o =>
        have := s1 _ _ nFb q
        rw [nF] at this
        cases this
    walk_at "s"
    refine ⟨by omega, by omega, for_range (lo := 0) (n := n1) (fun i σ H' => ∃ (fl : List Int) (h : Int) (y : Option V), σ = [some (.ref b), some (.bl low), some (.int h), some (.ref pF), y, none] ∧ Bx b H H' ∧ BoxAt H' b ∧ H' pF = some (.lst (fl.map V.int)) ∧ fl.length = i ∧ Up st fl h ∧ st ≤ h ∧ h ≤ st + 5 * i) ?_ ?_ ?_⟩
    · refine ⟨[], st, none, ?_, S3, b3, e3, rfl, ⟨List.Pairwise.nil, fun x hx => nomatch hx⟩, Int.le_refl _, by omega⟩
      rw [← hst]
      rfl
    · rintro i σ H' hi ⟨fl, h, y, rfl, S', b', e', hlen, up, h1, h2⟩
      walk_at "s"
      refine ⟨.inl ⟨rfl, _, SqL.of e'⟩, _, rfl, pF, _, _, rfl, rfl, e', by rw [List.length_map]; omega, ?_⟩
      generalize hq : upd _ pF _ = H4
      obtain ⟨e4, o4⟩ := upd_facts hq
      clear hq
      have S4 : Bx b H H4 := fun c o nc e => by
        rw [o4 c (ne_of_none e nFH)]
        exact S' c o nc e
      have b4 : BoxAt H4 b := by
        obtain ⟨x, y, z, x0, hb⟩ := b'
        exact ⟨x, y, z, x0, by rw [o4 b nFb.symm]; exact hb⟩
      walk_at "s"
      walk_at "new"
      rename_i pL nL H5 s5 e5
      have b5 := b4.same s5
      have nLb : pL ≠ b := b4.ne nL
      refine ⟨b, pL, _, rfl, b5, nLb, e5, by decide, by decide, fun H6 x hx s6 b6 => ?_⟩
      obtain ⟨d, rfl, d0, d1⟩ : ∃ d : Int, x = .int d ∧ 0 ≤ d ∧ d ≤ 5 := by
        simp only [List.mem_cons, List.not_mem_nil, or_false] at hx
        rcases hx with rfl | rfl | rfl | rfl
        · exact ⟨0, rfl, by decide, by decide⟩
        · exact ⟨1, rfl, by decide, by decide⟩
        · exact ⟨2, rfl, by decide, by decide⟩
        · exact ⟨5, rfl, by decide, by decide⟩
      have e6 := s6 _ _ nFb (s5 _ _ e4)
      walk_at "s"
      refine ⟨fl ++ [h], h + d, _, rfl, S4.trans ((Bx.of s5).trans s6), b6, ?_, by simp [hlen], up.app h1 (by omega), by omega, by omega⟩
      rw [e6, List.map_append]
      rfl
    · rintro σ H' ⟨fl, h, y, rfl, S', b', e', hlen, up, h1, h2⟩
      refine ⟨fun σ' H4 => ∃ (nn : Nat) (pf : Addr) (y : Option V), σ' = [some (.ref b), some (.bl low), some (.int h), some (.ref pf), y, none] ∧ Bx b H H4 ∧ BoxAt H4 b ∧ H pf = none ∧ pf ≠ b ∧ nn ≤ 2 ∧ H4 pf = some (.lst ((List.replicate nn none ++ fl.map some).map ov)), ?_, ?_⟩
      · walk_at "s"
        refine ⟨by decide, b', fun H4 n4 hn4 s4 b4 => ?_⟩
        have e4 := s4 _ _ nFb e'
        walk_at "s"
        refine ite2 (fun c => ?_) (fun c => ?_)
        · walk_at "new"
          rename_i pN nN H5 s5 e5
          have b5 := b4.same s5
          have nNb : pN ≠ b := b4.ne nN
          have e5f := s5 _ _ e4
          walk_at "s"
          refine ⟨by decide, b5, fun H6 n6 hn6 s6 b6 => ?_⟩
          have hn6' : n6 < 2 := hn6
          have e6 := s6 _ _ nNb e5
          have e6f := s6 _ _ nFb e5f
          walk_at "s"
          refine ⟨_, _, _, rfl, rfl, e6, by omega, by omega, ?_, ?_⟩
          · show 1 * ((1 : Int) + (n6 : Int)).toNat ≤ sizeLine
            omega
          walk_at "new"
          rename_i pR nR H7 s7 e7
          have e7f := s7 _ _ e6f
          rw [List.flatten_replicate_singleton] at e7
          walk_at "s"
          refine ⟨by rw [List.length_replicate, List.length_map]; omega, ?_⟩
          walk_at "new"
          rename_i pS nS H8 s8 e8
          have B8 : Bx b H H8 := S'.trans (s4.trans ((Bx.of s5).trans (s6.trans (Bx.of (s7.trans s8)))))
          have b8 : BoxAt H8 b := (b6.same s7).same s8
          have nSb : pS ≠ b := (b6.same s7).ne nS
          have nSH : H pS = none := by
            cases q : H pS with
            | none => rfl
            | some o =>
              have := s7 _ _ (s6 _ _ nSb (s5 _ _ (s4 _ _ nSb (S' _ _ nSb q))))
              rw [nS] at this
              cases this
          refine ⟨(1 + (n6 : Int)).toNat, pS, y, rfl, B8, b8, nSH, nSb, by omega, ?_⟩
          rw [e8, List.map_append, List.map_replicate, ov_some]
          rfl
        · exact ⟨0, pF, y, rfl, S'.trans s4, b4, nFH, nFb, by omega, by rw [e4, ov_some]; rfl⟩
      · rintro σ' H4 ⟨nn, pf, y4, rfl, S4, b4, nfH, nfb, hnn, e4⟩
        walk_at "new"
        rename_i pA nA H5 s5 e5
        have b5 := b4.same s5
        have nAb : pA ≠ b := b4.ne nA
        have nAf : pf ≠ pA := ne_of_none e4 nA
        have nAH : H pA = none := by
          cases q : H pA with
          | none => rfl
          | some o =>
            have := S4 _ _ nAb q
            rw [nA] at this
            cases this
        have e5f := s5 _ _ e4
        walk_at "s"
        refine ⟨by decide, b5, fun H6 n6 hn6 s6 b6 => ?_⟩
        have hn6' : n6 < 3 := hn6
        have e6 := s6 _ _ nAb e5
        have e6f := s6 _ _ nfb e5f
        have S6 : Bx b H H6 := S4.trans ((Bx.of s5).trans s6)
        walk_at "s"
        refine ⟨by omega, by omega, for_range (lo := 0) (n := (1 + (n6 : Int)).toNat) (fun i σ H' => ∃ (al : List Int) (h' : Int) (y : Option V), σ = [some (.ref b), some (.bl low), some (.int h'), some (.ref pf), y, some (.ref pA)] ∧ Bx b H H' ∧ BoxAt H' b ∧ H' pA = some (.lst (al.map V.int)) ∧ H' pf = some (.lst ((List.replicate nn none ++ fl.map some).map ov)) ∧ al.length = i ∧ Up st (fl ++ al) h' ∧ st ≤ h' ∧ h' ≤ st + 15 + 4 * i ∧ (∀ z, al.head? = some z → h' ≤ z + 4 * i)) ?_ ?_ ?_⟩
        · refine ⟨[], h, _, rfl, S6, b6, e6, e6f, rfl, ?_, h1, by omega, fun z hz => nomatch hz⟩
          rw [List.append_nil]
          exact up
        · rintro i σ H' hi ⟨al, h', y, rfl, S', b', e', ef', hlen', up', h1', h2', h3'⟩
          walk_at "s"
          refine ⟨.inl ⟨rfl, _, SqL.of e'⟩, _, rfl, pA, _, _, rfl, rfl, e', by rw [List.length_map]; omega, ?_⟩
          generalize hq : upd _ pA _ = H7
          obtain ⟨e7, o7⟩ := upd_facts hq
          clear hq
          have S7 : Bx b H H7 := fun c o nc e => by
            rw [o7 c (ne_of_none e nAH)]
            exact S' c o nc e
          have b7 : BoxAt H7 b := by
            obtain ⟨x, y, z, x0, hb⟩ := b'
            exact ⟨x, y, z, x0, by rw [o7 b nAb.symm]; exact hb⟩
          have e7f : H7 pf = some (.lst ((List.replicate nn none ++ fl.map some).map ov)) := by
            rw [o7 _ nAf]
            exact ef'
          walk_at "s"
          walk_at "new"
          rename_i pL nL H8 s8 e8
          have b8 := b7.same s8
          have nLb : pL ≠ b := b7.ne nL
          refine ⟨b, pL, _, rfl, b8, nLb, e8, by decide, by decide, fun H9 x hx s9 b9 => ?_⟩
          obtain ⟨d, rfl, d0, d1⟩ : ∃ d : Int, x = .int d ∧ 0 ≤ d ∧ d ≤ 4 := by
            simp only [List.mem_cons, List.not_mem_nil, or_false] at hx
            rcases hx with rfl | rfl | rfl | rfl
            · exact ⟨0, rfl, by decide, by decide⟩
            · exact ⟨1, rfl, by decide, by decide⟩
            · exact ⟨2, rfl, by decide, by decide⟩
            · exact ⟨4, rfl, by decide, by decide⟩
          have e9 := s9 _ _ nAb (s8 _ _ e7)
          have e9f := s9 _ _ nfb (s8 _ _ e7f)
          walk_at "s"
          refine ⟨al ++ [h'], h' + d, _, rfl, S7.trans ((Bx.of s8).trans s9), b9, ?_, e9f, by simp [hlen'], ?_, by omega, by omega, fun z hz => ?_⟩
          · rw [e9, List.map_append]
            rfl
          · rw [← List.append_assoc]
            exact up'.app h1' (by omega)
          · cases al with
            | nil =>
              have : h' = z := Option.some.inj hz
              omega
            | cons w r =>
              have := h3' z hz
              omega
        · rintro σ H' ⟨al, h', y, rfl, S', b', e', ef', hlen', up', h1', h2', h3'⟩
          have hal : al.length = n6 + 1 := by omega
          obtain ⟨lo, hlo⟩ : ∃ lo, al.head? = some lo := by
            cases al with
            | nil => cases hal
            | cons w r => exact ⟨w, rfl⟩
          obtain ⟨hi, hhi⟩ : ∃ hi, al.getLast? = some hi := by
            cases q : al.getLast? with
            | none =>
              rw [List.getLast?_eq_none_iff.mp q] at hal
              cases hal
            | some w => exact ⟨w, rfl⟩
          have a0 : atI (al.map V.int) 0 = some (.int lo) := atI_head (by rw [List.head?_map, hlo]; rfl)
          have a1 : atI (al.map V.int) (-1) = some (.int hi) := atI_neg1 (by rw [List.getLast?_map, hhi]; rfl)
          walk_at "s"
          refine ⟨by decide, b', fun H7 r hr7 s7 b7 => ?_⟩
          have hr7' : r < 5 := hr7
          have e7 := s7 _ _ nAb e'
          have e7f := s7 _ _ nfb ef'
          walk_at "s"
          walk_at "new"
          rename_i pT nT H8 s8 e8
          have nTb : pT ≠ b := b7.ne nT
          have B8 : Bx b H H8 := S'.trans (s7.trans (Bx.of s8))
          have nTH : H pT = none := by
            cases q : H pT with
            | none => rfl
            | some o =>
              have := s7 _ _ nTb (S' _ _ nTb q)
              rw [nT] at this
              cases this
          have hn1' : n1 < 4 := hn1
          have mlo : lo ∈ al := List.mem_of_mem_head? hlo
          have mhi : hi ∈ al := List.mem_of_getLast? hhi
          have hbd := fun x hx => up'.bd x hx
          have blo := hbd lo (List.mem_append_right _ mlo)
          have bhi := hbd hi (List.mem_append_right _ mhi)
          have hz := h3' lo hlo
          refine k H8 pT (List.replicate nn none ++ fl.map some) (al.map some) (hi - lo + r) B8 (b7.same s8) nTH ⟨pf, pA, nTb, nfb, nAb, e8, s8 _ _ e7f, by rw [s8 _ _ e7, ov_some]⟩
            ⟨nn, fl, al, lo, hi, rfl, rfl, up'.asc, hlo, hhi, by omega, by omega, hnn, by omega, by omega, fun x hx => ?_⟩
          have := hbd x hx
          omega
end
end My

namespace My
open PySem PySem.Spec PyProof.Rows L2
theorem rises_some : ∀ (L : List Int) (l : Int), (∀ x ∈ L, l ≤ x) → L.Pairwise (· ≤ ·) → risesFrom (some l) (L.map some) = true
  | [], _, _, _ => rfl
  | x :: r, l, h, p => by
    have hx := h x List.mem_cons_self
    rw [List.pairwise_cons] at p
    show (if x < l then false else risesFrom (some x) (r.map some)) = true
    rw [if_neg (by omega)]
    exact rises_some r x p.1 p.2
theorem rises_all (L : List Int) (p : L.Pairwise (· ≤ ·)) : risesFrom none (L.map some) = true := by
  cases L with
  | nil => rfl
  | cons x r =>
    rw [List.pairwise_cons] at p
    exact rises_some r x p.1 p.2
theorem rises_none : ∀ (n : Nat) (R : List (Option Int)), risesFrom none (List.replicate n none ++ R) = risesFrom none R
  | 0, _ => rfl
  | n + 1, R => rises_none n R
theorem head_le {L : List Int} (p : L.Pairwise (· ≤ ·)) {lo x : Int} (h : L.head? = some lo) (hx : x ∈ L) : lo ≤ x := by
  cases L with
  | nil => cases h
  | cons y r =>
    have e : y = lo := Option.some.inj h
    subst e
    rw [List.pairwise_cons] at p
    rcases List.mem_cons.mp hx with rfl | q
    · exact Int.le_refl _
    · exact p.1 x q
theorem le_last {L : List Int} (p : L.Pairwise (· ≤ ·)) {hi x : Int} (h : L.getLast? = some hi) (hx : x ∈ L) : x ≤ hi := by
  obtain ⟨ys, rfl⟩ := List.getLast?_eq_some_iff.mp h
  rw [List.pairwise_append] at p
  rcases List.mem_append.mp hx with q | q
  · exact p.2.2 x q hi (List.mem_singleton.mpr rfl)
  · rw [List.mem_singleton.mp q]
    exact Int.le_refl _
/-- what a told row is: nothing, then times that never fall -/
structure ShapeG (f a : List (Option Int)) (m : Int) : Prop where
  ex : ∃ (nn : Nat) (fl al : List Int) (lo hi : Int), f = List.replicate nn none ++ fl.map some ∧ a = al.map some ∧ (fl ++ al).Pairwise (· ≤ ·) ∧ al.head? = some lo ∧ al.getLast? = some hi ∧ hi - lo ≤ m ∧ m ≤ 999 ∧ nn ≤ 2 ∧ nn + fl.length ≤ 20 ∧ al.length ≤ 12 ∧ (∀ x ∈ fl ++ al, -2000 ≤ x ∧ x ≤ 2000)
theorem Shape.g {f a : List (Option Int)} {m : Int} (S : Shape f a m) : ShapeG f a m := by
  obtain ⟨nn, fl, al, lo, hi, rfl, rfl, hp, hlo, hhi, h1, h2, hn, hf, ha, hb⟩ := S.ex
  have b1 := hb lo (List.mem_append_right _ (List.mem_of_mem_head? hlo))
  have b2 := hb hi (List.mem_append_right _ (List.mem_of_getLast? hhi))
  exact ⟨nn, fl, al, lo, hi, rfl, rfl, hp, hlo, hhi, h1, by omega, hn, by omega, by omega, fun x hx => by have := hb x hx; omega⟩
section
variable {f a : List (Option Int)} {m : Int}
theorem ShapeG.ok (S : ShapeG f a m) : OkRow f a m := by
  obtain ⟨nn, fl, al, lo, hi, rfl, rfl, hp, hlo, hhi, h1, h2, hn, hf, ha, hb⟩ := S.ex
  have hp' := List.pairwise_append.mp hp
  have hal : al ≠ [] := fun e => by
    rw [e] at hlo
    cases hlo
  refine ⟨?_, rises_all al hp'.2.1, fun e => hal (List.map_eq_nil_iff.mp e), Or.inl ⟨lo, hi, ?_, ?_, fun e he => ?_, ?_, h1⟩⟩
  · rw [rises_none]
    exact rises_all fl hp'.1
  · rw [List.head?_map, hlo]
    rfl
  · rw [List.getLast?_map, hhi]
    rfl
  · have := List.mem_of_getLast? he
    rcases List.mem_append.mp this with q | q
    · have := (List.mem_replicate.mp q).2
      cases this
    · obtain ⟨x, hx, e1⟩ := List.mem_map.mp q
      have e2 : x = e := Option.some.inj e1
      rw [← e2]
      exact hp'.2.2 x hx lo (List.mem_of_mem_head? hlo)
  · have := head_le hp'.2.1 hlo (List.mem_of_getLast? hhi)
    omega
theorem ShapeG.parts (S : ShapeG f a m) : Parts f a m := by
  obtain ⟨nn, fl, al, lo, hi, rfl, rfl, hp, hlo, hhi, h1, h2, hn, hf, ha, hb⟩ := S.ex
  have hp' := List.pairwise_append.mp hp
  have hle := head_le hp'.2.1 hlo (List.mem_of_getLast? hhi)
  have b1 := hb lo (List.mem_append_right _ (List.mem_of_mem_head? hlo))
  have b2 := hb hi (List.mem_append_right _ (List.mem_of_getLast? hhi))
  refine ⟨fun e => ?_, ?_, ?_, by omega, by omega⟩
  · rw [List.map_eq_nil_iff.mp e] at hlo
    cases hlo
  · rw [List.length_append, List.length_replicate, List.length_map]
    omega
  · rw [List.length_map]
    omega
theorem gt_mapsome {L : List Int} {i : Nat} (h : i < L.length) : gt (L.map some) i = some L[i] := by
  rw [gt_lt (by rw [List.length_map]; exact h), List.getElem_map]
theorem ShapeG.mono (S : ShapeG f a m) (n : Nat) : leO (tmR f a m n) (tmR f a m (n + 1)) := by
  have ok := S.ok
  have hne : 0 < a.length := List.length_pos_iff.mpr ok.ne
  obtain ⟨nn, fl, al, lo, hi, rfl, rfl, hp, hlo, hhi, h1, h2, hn, hf, ha, hb⟩ := S.ex
  have hp' := List.pairwise_append.mp hp
  rw [List.length_map] at hne
  have hl : (List.replicate nn none ++ fl.map some).length = nn + fl.length := by rw [List.length_append, List.length_replicate, List.length_map]
  have hla : (al.map some).length = al.length := List.length_map ..
  by_cases c : n + 1 < nn + fl.length + al.length
  · rw [tm_lt (n := n) (by omega), tm_lt (n := n + 1) (by omega)]
    have e : (List.replicate nn none ++ fl.map some ++ al.map some) = List.replicate nn none ++ (fl ++ al).map some := by rw [List.append_assoc, List.map_append]
    rw [e]
    by_cases cn : n < nn
    · have : gt (List.replicate nn none ++ (fl ++ al).map some) n = none := by
        unfold gt
        rw [List.getElem?_append_left (by rw [List.length_replicate]; exact cn), List.getElem?_replicate]
        rw [if_pos cn]
        rfl
      rw [this]
      trivial
    · have g : ∀ i, nn ≤ i → i < nn + (fl ++ al).length → gt (List.replicate nn none ++ (fl ++ al).map some) i = gt ((fl ++ al).map some) (i - nn) := fun i h _ => by
        unfold gt
        rw [List.getElem?_append_right (by rw [List.length_replicate]; exact h), List.length_replicate]
      have hlen : (fl ++ al).length = fl.length + al.length := List.length_append
      rw [g n (by omega) (by omega), g (n + 1) (by omega) (by omega), gt_mapsome (i := n - nn) (by omega), gt_mapsome (i := n + 1 - nn) (by omega)]
      exact List.pairwise_iff_getElem.mp hp (n - nn) (n + 1 - nn) (by omega) (by omega) (by omega)
  · have tma : ∀ i, nn + fl.length ≤ i → tmR (List.replicate nn none ++ fl.map some) (al.map some) m i = later1 (((i - (nn + fl.length)) / al.length : Nat) * m) (gt (al.map some) ((i - (nn + fl.length)) % al.length)) := fun i h => by
      unfold tmR
      rw [hl, hla, if_neg (by omega)]
    by_cases c0 : n < nn + fl.length
    · have : al.length = 0 := by omega
      omega
    · rw [tma n (by omega), tma (n + 1) (by omega)]
      have e1 : n + 1 - (nn + fl.length) = (n - (nn + fl.length)) + 1 := by omega
      rw [e1]
      generalize n - (nn + fl.length) = i
      have hr : i % al.length < al.length := Nat.mod_lt _ hne
      rw [gt_mapsome hr]
      by_cases cr : i % al.length + 1 < al.length
      · have d1 : (i + 1) / al.length = i / al.length := by
          rw [Nat.succ_div, if_neg, Nat.add_zero]
          intro hd
          have := Nat.mod_eq_zero_of_dvd hd
          rw [Nat.add_mod, Nat.mod_eq_of_lt (a := 1) (by omega), Nat.mod_eq_of_lt cr] at this
          omega
        have d2 : (i + 1) % al.length = i % al.length + 1 := by
          rw [Nat.add_mod, Nat.mod_eq_of_lt (a := 1) (by omega), Nat.mod_eq_of_lt cr]
        have hrr : (i + 1) % al.length < al.length := by omega
        rw [gt_mapsome hrr, d1]
        have := List.pairwise_iff_getElem.mp hp'.2.1 (i % al.length) ((i + 1) % al.length) hr hrr (by omega)
        show al[i % al.length] + _ ≤ al[(i + 1) % al.length] + _
        omega
      · have er : i % al.length = al.length - 1 := by omega
        have hd : al.length ∣ i + 1 := by
          refine Nat.dvd_of_mod_eq_zero ?_
          by_cases h1 : al.length = 1
          · rw [h1]
            exact Nat.mod_one _
          · rw [Nat.add_mod, Nat.mod_eq_of_lt (a := 1) (by omega), er, Nat.sub_add_cancel (by omega), Nat.mod_self]
        have d1 : (i + 1) / al.length = i / al.length + 1 := by rw [Nat.succ_div, if_pos hd]
        have d2 : (i + 1) % al.length = 0 := Nat.mod_eq_zero_of_dvd hd
        rw [gt_mapsome (i := (i + 1) % al.length) (by omega), d1]
        have m1 : al[i % al.length] ≤ hi := le_last hp'.2.1 hhi (List.getElem_mem hr)
        have m2 : lo ≤ al[(i + 1) % al.length]'(by omega) := head_le hp'.2.1 hlo (List.getElem_mem _)
        show al[i % al.length] + ((i / al.length : Nat) : Int) * m ≤ al[(i + 1) % al.length]'(by omega) + ((i / al.length + 1 : Nat) : Int) * m
        rw [show ((i / al.length + 1 : Nat) : Int) = ((i / al.length : Nat) : Int) + 1 by omega, Int.add_mul, Int.one_mul]
        omega

theorem ShapeG.ne (S : ShapeG f a m) : 0 < a.length := List.length_pos_iff.mpr S.ok.ne
theorem ShapeG.first (S : ShapeG f a m) : ∃ lo, tmR f a m f.length = some lo ∧ -2000 ≤ lo ∧ lo ≤ 2000 := by
  have hne : 0 < a.length := S.ne
  obtain ⟨nn, fl, al, lo, hi, rfl, rfl, hp, hlo, hhi, h1, h2, hn, hf, ha, hb⟩ := S.ex
  have b1 := hb lo (List.mem_append_right _ (List.mem_of_mem_head? hlo))
  refine ⟨lo, ?_, b1.1, b1.2⟩
  have := tm_a (f := List.replicate nn none ++ fl.map some) (m := m) 0 hne
  rw [Nat.zero_mul, Nat.add_zero, Int.natCast_zero, Int.zero_mul, later1_zero] at this
  rw [this]
  cases al with
  | nil => cases hlo
  | cons w r => exact hlo
theorem ShapeG.live (S : ShapeG f a m) (n : Nat) (h : f.length ≤ n) : ∃ x, tmR f a m n = some x := by
  obtain ⟨lo, h1, _⟩ := S.first
  have h2 := mono_all S.mono h
  rw [h1] at h2
  cases e : tmR f a m n with
  | none =>
    rw [e] at h2
    exact h2.elim
  | some x => exact ⟨x, rfl⟩
theorem ShapeG.lens (S : ShapeG f a m) : f.length ≤ 20 ∧ a.length ≤ 12 ∧ m ≤ 999 := by
  obtain ⟨nn, fl, al, lo, hi, rfl, rfl, hp, hlo, hhi, h1, h2, hn, hf, ha, hb⟩ := S.ex
  refine ⟨by rw [List.length_append, List.length_replicate, List.length_map]; omega, by rw [List.length_map]; omega, h2⟩
theorem ShapeG.bound (S : ShapeG f a m) {n : Nat} (h : n < 100) {x : Int} (hx : tmR f a m n = some x) : -2000 ≤ x ∧ x ≤ 102000 := by
  have hne := S.ne
  have p := S.parts
  have l := S.lens
  have m0 := p.m0
  obtain ⟨nn, fl, al, lo, hi, rfl, rfl, hp, hlo, hhi, h1, h2, hn, hf, ha, hb⟩ := S.ex
  unfold tmR at hx
  by_cases c : n < (List.replicate nn none ++ fl.map some).length
  · rw [if_pos c, gt_lt c] at hx
    have := List.getElem_mem c
    rw [hx] at this
    rcases List.mem_append.mp this with q | q
    · cases (List.mem_replicate.mp q).2
    · obtain ⟨y, hy, e⟩ := List.mem_map.mp q
      cases e
      have := hb x (List.mem_append_left _ hy)
      omega
  · rw [if_neg c] at hx
    have hr : (n - (List.replicate nn none ++ fl.map some).length) % (al.map some).length < (al.map some).length := Nat.mod_lt _ hne
    rw [gt_lt hr] at hx
    have hmem := List.getElem_mem hr
    obtain ⟨y, hy, e⟩ := List.mem_map.mp hmem
    rw [← e] at hx
    have e2 : y + ((n - (List.replicate nn none ++ fl.map some).length) / (al.map some).length : Nat) * m = x := Option.some.inj hx
    have hd : (n - (List.replicate nn none ++ fl.map some).length) / (al.map some).length ≤ n - (List.replicate nn none ++ fl.map some).length := Nat.div_le_self _ _
    generalize (n - (List.replicate nn none ++ fl.map some).length) / (al.map some).length = q at e2 hd
    have hq : q < 100 := by omega
    have hq0 : (0 : Int) ≤ (q : Int) * m := Int.mul_nonneg (Int.natCast_nonneg q) m0
    have hq1 : (q : Int) * m ≤ 100 * 999 := by
      have a1 : (q : Int) * m ≤ 100 * m := Int.mul_le_mul_of_nonneg_right (by omega) m0
      omega
    have := hb y (List.mem_append_right _ hy)
    omega
/-- a row whose parts are told off monotone times is right -/
theorem rises_from : ∀ (k : Nat) (g : Nat → Option Int), (∀ n, leO (g n) (g (n + 1))) → risesFrom (g 0) ((List.range k).map fun i => g (i + 1)) = true
  | 0, g, _ => by cases g 0 <;> rfl
  | k + 1, g, h => by
    rw [List.range_succ_eq_map, List.map_cons, List.map_map]
    have ih := rises_from k (fun n => g (n + 1)) (fun n => h (n + 1))
    have h0 := h 0
    show risesFrom (g 0) (g 1 :: ((List.range k).map fun i => g (i + 1 + 1))) = true
    have ih' : risesFrom (g 1) ((List.range k).map fun i => g (i + 1 + 1)) = true := ih
    cases e0 : g 0 with
    | none => exact ih'
    | some l =>
      cases e1 : g 1 with
      | none =>
        rw [e0, show (0 : Nat) + 1 = 1 from rfl, e1] at h0
        exact h0.elim
      | some x =>
        rw [e0, show (0 : Nat) + 1 = 1 from rfl, e1] at h0
        have h0' : l ≤ x := h0
        rw [e1] at ih'
        show (if x < l then false else risesFrom (some x) _) = true
        rw [if_neg (by omega)]
        exact ih'
theorem rises_of (k : Nat) (g : Nat → Option Int) (h : ∀ n, leO (g n) (g (n + 1))) : risesFrom none ((List.range k).map g) = true := by
  cases k with
  | zero => rfl
  | succ k =>
    rw [List.range_succ_eq_map, List.map_cons, List.map_map]
    exact rises_from k g h
theorem ok_of_mono {s : Nat → Option Int} {B T : Nat} {M : Int} (mono : ∀ n, leO (s n) (s (n + 1))) (live : ∀ n, B ≤ n → ∃ x, s n = some x) (hT : 0 < T) (hM : 0 ≤ M) (hg : s (B + T) = later1 M (s B)) :
    OkRow ((List.range B).map s) ((List.range T).map fun i => s (B + i)) M := by
  obtain ⟨lo, hlo⟩ := live B (Nat.le_refl _)
  obtain ⟨hi, hhi⟩ := live (B + (T - 1)) (by omega)
  have mono' : ∀ i j, i ≤ j → leO (s i) (s j) := fun i j h => by
    obtain ⟨d, rfl⟩ := Nat.le.dest h
    induction d with
    | zero => exact leO_refl _
    | succ d ih => exact leO_trans (ih (by omega)) (mono (i + d))
  refine ⟨rises_of B s mono, rises_of T (fun i => s (B + i)) (fun n => mono (B + n)), fun e => ?_, Or.inl ⟨lo, hi, ?_, ?_, fun e he => ?_, hM, ?_⟩⟩
  · have := congrArg List.length e
    rw [List.length_map, List.length_range] at this
    simp at this
    omega
  · cases T with
    | zero => omega
    | succ T =>
      rw [List.range_succ_eq_map, List.map_cons, List.head?_cons, Nat.add_zero, hlo]
  · cases T with
    | zero => omega
    | succ T =>
      rw [List.range_succ, List.map_append, List.map_cons, List.map_nil, List.getLast?_concat]
      rw [show T + 1 - 1 = T by omega] at hhi
      rw [hhi]
  · cases B with
    | zero => cases he
    | succ B =>
      rw [List.range_succ, List.map_append, List.map_cons, List.map_nil, List.getLast?_concat] at he
      have e1 : s B = some e := Option.some.inj he
      have := mono B
      rw [e1, hlo] at this
      exact this
  · have h1 := mono' (B + (T - 1)) (B + T) (by omega)
    rw [hg, hlo, hhi] at h1
    have h2 : hi ≤ lo + M := h1
    omega
end
end My

namespace My
open PySem PySem.Spec PyProof.Rows L2
/-- from b on all comes again t goings later, g later -/
def Qp (s : Nat → Option Int) (b t : Nat) (g : Int) : Prop := ∀ n, b ≤ n → s (n + t) = later1 g (s n)
theorem later1_inj {g : Int} {x y : Option Int} (h : later1 g x = later1 g y) : x = y := by
  cases x <;> cases y
  · rfl
  · cases h
  · cases h
  · rename_i i j
    have : i + g = j + g := Option.some.inj h
    rw [show i = j by omega]
theorem later1_g {g g' : Int} {x : Option Int} (n : x ≠ none) (h : later1 g x = later1 g' x) : g = g' := by
  cases x with
  | none => exact absurd rfl n
  | some i =>
    have : i + g = i + g' := Option.some.inj h
    omega
theorem Qp.mono {s : Nat → Option Int} {b b' t : Nat} {g : Int} (q : Qp s b t g) (h : b ≤ b') : Qp s b' t g := fun n hn => q n (Nat.le_trans h hn)
theorem Qp.iter {s : Nat → Option Int} {b t : Nat} {g : Int} (q : Qp s b t g) {n : Nat} (h : b ≤ n) : ∀ k : Nat, s (n + k * t) = later1 (k * g) (s n)
  | 0 => by rw [Nat.zero_mul, Nat.add_zero, Int.natCast_zero, Int.zero_mul, later1_zero]
  | k + 1 => by
    rw [show n + (k + 1) * t = (n + k * t) + t by rw [Nat.succ_mul, Nat.add_assoc], q _ (by omega), q.iter h k, later1_later1]
    congr 1
    rw [show ((k + 1 : Nat) : Int) = (k : Int) + 1 by omega, Int.add_mul, Int.one_mul]
/-- a turn on one turn of a row is a turn for ever -/
theorem Qp.spread {s : Nat → Option Int} {b q p : Nat} {m g : Int} (h : Qp s b q m) (hq : 0 < q) (hw : ∀ n, b ≤ n → n < b + q → s (n + p) = later1 g (s n)) : Qp s b p g := by
  intro n hn
  have hr : (n - b) % q < q := Nat.mod_lt _ hq
  have e : n = (b + (n - b) % q) + (n - b) / q * q := by
    have := Nat.mod_add_div (n - b) q
    rw [Nat.mul_comm q] at this
    omega
  generalize hn0 : b + (n - b) % q = n0 at e
  generalize (n - b) / q = k at e
  have h0 : b ≤ n0 := by omega
  have h1 : n0 < b + q := by omega
  rw [e, show n0 + k * q + p = (n0 + p) + k * q by omega, h.iter (by omega) k, h.iter h0 k, hw n0 h0 h1, later1_later1, later1_later1]
  congr 1
  omega
/-- a row never falls to nothing again: so a growth is one number -/
theorem Qp.sub {s : Nat → Option Int} {b q p : Nat} {m g : Int} (hq : Qp s b q m) (hp : Qp s b p g) (k r : Nat) (e : q = k * p + r) : Qp s b r (m - k * g) := by
  intro n hn
  have h1 := hq n hn
  have h2 : s (n + q) = later1 (k * g) (s (n + r)) := by
    rw [e, show n + (k * p + r) = (n + r) + k * p by omega]
    exact hp.iter (by omega) k
  rw [h2] at h1
  have h3 : later1 (k * g) (s (n + r)) = later1 (k * g) (later1 (m - k * g) (s n)) := by
    rw [h1, later1_later1]
    congr 1
    omega
  exact later1_inj h3
/-- there is a least turn, and it divides each -/
theorem least_turn {s : Nat → Option Int} (b : Nat) : ∀ q : Nat, 0 < q → (∃ m, Qp s b q m) → ∃ p g, 0 < p ∧ Qp s b p g ∧ (∀ p', 0 < p' → p' < p → ¬ ∃ g', Qp s b p' g') ∧ ∀ q' m', Qp s b q' m' → p ∣ q' := by
  intro q
  induction q using Nat.strongRecOn with
  | ind q ih =>
    rintro h0 ⟨m, hq⟩
    by_cases c : ∃ p', 0 < p' ∧ p' < q ∧ ∃ g', Qp s b p' g'
    · obtain ⟨p', h1, h2, h3⟩ := c
      exact ih p' h2 h1 h3
    · refine ⟨q, m, h0, hq, fun p' h1 h2 h3 => c ⟨p', h1, h2, h3⟩, fun q' m' h' => ?_⟩
      have hr : q' % q < q := Nat.mod_lt _ h0
      have e : q' = q' / q * q + q' % q := by
        have := Nat.div_add_mod q' q
        rw [Nat.mul_comm] at this
        exact this.symm
      by_cases z : q' % q = 0
      · exact Nat.dvd_of_mod_eq_zero z
      · exact absurd ⟨q' % q, by omega, hr, _, h'.sub hq _ _ e⟩ c
section
variable {f a : List (Option Int)} {m : Int}
theorem tm_qp (h0 : 0 < a.length) : Qp (tmR f a m) f.length a.length m := by
  intro n hn
  unfold tmR
  rw [if_neg (by omega), if_neg (by omega), later1_later1, show n + a.length - f.length = (n - f.length) + a.length by omega, Nat.add_div_right _ h0, Nat.add_mod_right]
  congr 1
  rw [show (((n - f.length) / a.length + 1 : Nat) : Int) = (((n - f.length) / a.length : Nat) : Int) + 1 by omega, Int.add_mul, Int.one_mul]
/-- the times are above nothing from the place f.length on -/
def Lives (f a : List (Option Int)) (m : Int) : Prop := ∀ n, f.length ≤ n → tmR f a m n ≠ none
theorem least_is {t b : Nat} (F : LeastTurn a m t) (h0 : 0 < a.length) (L : Lives f a m) {B t' : Nat} {g' : Int} (h' : 0 < t') (q : Qp (tmR f a m) B t' g') : t ≤ t' := by
  have hq := tm_qp (f := f) (m := m) h0
  generalize hM : max B f.length = M
  have hMB : B ≤ M := by omega
  have hMf : f.length ≤ M := by omega
  obtain ⟨p, g, p0, hp, hleast, hdvd⟩ := least_turn M a.length h0 ⟨m, hq.mono hMf⟩
  have hpt : p ≤ t' := Nat.le_of_dvd h' (hdvd t' g' (q.mono hMB))
  obtain ⟨k, hk⟩ := hdvd a.length m (hq.mono hMf)
  have hm : m = k * g := by
    have h1 := hp.iter (Nat.le_refl M) k
    have h2 := hq M hMf
    rw [hk, Nat.mul_comm p k, h1] at h2
    exact (later1_g (L M hMf) h2).symm
  have hkp : (k : Int) * (p : Int) = (a.length : Int) := by rw [hk, Int.natCast_mul, Int.mul_comm]
  have hmp : m * (p : Int) = (a.length : Int) * g := by
    rw [hm, Int.mul_assoc, Int.mul_comm g, ← Int.mul_assoc, hkp]
  have ha0 : (a.length : Int) ≠ 0 := by omega
  have hg : m * (p : Int) / (a.length : Int) = g := by rw [hmp]; exact Int.mul_ediv_cancel_left _ ha0
  have hfit : Fits a m p := by
    refine ⟨p0, ⟨k, hk⟩, by rw [hmp]; exact Int.mul_emod_right _ _, ?_⟩
    rw [hg]
    have hpa : p ≤ a.length := Nat.le_of_dvd h0 ⟨k, hk⟩
    apply List.ext_getElem
    · rw [List.length_drop, List.length_map, List.length_take]; omega
    · intro i h1 h2
      rw [List.length_drop] at h1
      rw [List.getElem_drop, List.getElem_map, List.getElem_take]
      have x1 : tmR f a m (f.length + (p + i)) = a[p + i]'(by omega) := by
        rw [tm_lt (by omega)]
        unfold gt
        rw [List.getElem?_append_right (by omega), show f.length + (p + i) - f.length = p + i by omega, List.getElem?_eq_getElem (by omega)]
        rfl
      have x2 : tmR f a m (f.length + i) = a[i]'(by omega) := by
        rw [tm_lt (by omega)]
        unfold gt
        rw [List.getElem?_append_right (by omega), show f.length + i - f.length = i by omega, List.getElem?_eq_getElem (by omega)]
        rfl
      rw [← x1, ← x2]
      have y1 := hq.iter (n := f.length + (p + i)) (by omega) M
      have y2 := hq.iter (n := f.length + i) (by omega) M
      have hM1 : M ≤ f.length + i + M * a.length := by
        have : M * 1 ≤ M * a.length := Nat.mul_le_mul_left _ h0
        omega
      have y3 := hp (f.length + i + M * a.length) hM1
      rw [show f.length + i + M * a.length + p = f.length + (p + i) + M * a.length by omega, y1, y2, later1_later1] at y3
      have y4 : later1 (M * m) (tmR f a m (f.length + (p + i))) = later1 (M * m) (later1 g (tmR f a m (f.length + i))) := by
        rw [y3, later1_later1]
        congr 1
        omega
      exact later1_inj y4
  have : t ≤ p := Nat.le_of_not_lt fun c => F.least p c hfit
  omega
/-- what is made, by the times alone -/
structure Canon (s : Nat → Option Int) (t b : Nat) (g : Int) : Prop where
  pos : 0 < t
  qp : Qp s b t g
  tl : ∀ B t' g', 0 < t' → Qp s B t' g' → t ≤ t'
  bl : ∀ B g', Qp s B t g' → b ≤ B
theorem made_canon {f' a' : List (Option Int)} {m' : Int} (M : MadeOf f a m f' a' m') (h0 : 0 < a.length) (L : Lives f a m) :
    ∃ t b, Canon (tmR f a m) t b m' ∧ t ≤ a.length ∧ b ≤ f.length ∧ f' = (List.range b).map (tmR f a m) ∧ a' = (List.range t).map (fun i => tmR f a m (b + i)) := by
  obtain ⟨t, b, F, S, rfl, rfl, rfl⟩ := M
  have ht := F.fits.pos
  have hle := F.le
  have hb := S.le
  have Q : Qp (tmR f a m) b t (m * t / a.length) := fun n hn => tm_step F S h0 hn
  refine ⟨t, b, ⟨ht, Q, fun B t' g' h' q => least_is (b := b) F h0 L h' q, fun B g' q => ?_⟩, hle, hb, ?_, ?_⟩
  · refine Nat.le_of_not_lt fun c => ?_
    have hgg : g' = m * t / a.length := by
      have h1 := q (max B f.length + b) (by omega)
      have h2 := Q (max B f.length + b) (by omega)
      rw [h1] at h2
      exact later1_g (L _ (by omega)) h2
    subst hgg
    rcases S.least with z | z
    · omega
    · refine z ?_
      have l1 : b - 1 + t < (f ++ a).length := by rw [List.length_append]; omega
      have l2 : b - 1 < (f ++ a).length := by rw [List.length_append]; omega
      have h1 := q (b - 1) (by omega)
      rw [List.length_append] at l1 l2
      rw [tm_lt l1, tm_lt l2] at h1
      rw [get_some (by rw [List.length_append]; exact l1), get_some (by rw [List.length_append]; exact l2), h1]
      rfl
  · apply List.ext_getElem
    · rw [List.length_take, List.length_append, List.length_map, List.length_range]; omega
    · intro i h1 h2
      rw [List.length_map, List.length_range] at h2
      rw [List.getElem_take, List.getElem_map, List.getElem_range, tm_lt (by omega), gt_lt (by rw [List.length_append]; omega)]
  · apply List.ext_getElem
    · rw [List.length_take, List.length_drop, List.length_append, List.length_map, List.length_range]; omega
    · intro i h1 h2
      rw [List.length_map, List.length_range] at h2
      rw [List.getElem_take, List.getElem_drop, List.getElem_map, List.getElem_range, tm_lt (by omega), gt_lt (by rw [List.length_append]; omega)]
/-- one row has one least form -/
theorem Canon.uniq {s : Nat → Option Int} {t b t' b' : Nat} {g g' : Int} (C : Canon s t b g) (C' : Canon s t' b' g') (L : ∀ N, ∃ n, N ≤ n ∧ s n ≠ none) : t = t' ∧ b = b' ∧ g = g' := by
  have e : t = t' := Nat.le_antisymm (C.tl _ _ _ C'.pos C'.qp) (C'.tl _ _ _ C.pos C.qp)
  subst e
  obtain ⟨n, hn, z⟩ := L (b + b')
  have h1 := C.qp n (by omega)
  rw [C'.qp n (by omega)] at h1
  exact ⟨rfl, Nat.le_antisymm (C.bl _ _ C'.qp) (C'.bl _ _ C.qp), (later1_g z h1).symm⟩
end
/-- two rows that are the same for a while are the same -/
theorem same_for_ever {s s' : Nat → Option Int} {N q q' W : Nat} {m m' : Int} (h : Qp s N q m) (h' : Qp s' N q' m') (h0 : 0 < q) (h0' : 0 < q') (hW : N + q + q' ≤ W) (hs : ∀ n, n < W → s n = s' n) (n : Nat) : s n = s' n := by
  have k : Qp s N q' m' := h.spread h0 fun n h1 h2 => by
    rw [hs n (by omega), hs (n + q') (by omega)]
    exact h' n h1
  induction n using Nat.strongRecOn with
  | ind n ih =>
    by_cases c : n < W
    · exact hs n c
    · have e : n = (n - q') + q' := by omega
      rw [e, k _ (by omega), h' _ (by omega), ih (n - q') (by omega)]
/-- a row told with longer beginnings and turns -/
theorem wide_times {s : Nat → Option Int} {N q B c : Nat} {m : Int} (h : Qp s N q m) (hB : N ≤ B) (hq : 0 < q) (hc : 0 < c) (n : Nat) :
    tmR ((List.range B).map s) ((List.range (c * q)).map fun i => s (B + i)) (c * m) n = s n := by
  unfold tmR
  rw [List.length_map, List.length_range, List.length_map, List.length_range]
  have hcq : 0 < c * q := Nat.mul_pos hc hq
  by_cases z : n < B
  · rw [if_pos z]
    unfold gt
    rw [List.getElem?_map, List.getElem?_range z]
    rfl
  · rw [if_neg z]
    have hr : (n - B) % (c * q) < c * q := Nat.mod_lt _ hcq
    have e : n = (B + (n - B) % (c * q)) + ((n - B) / (c * q) * c) * q := by
      have := Nat.mod_add_div (n - B) (c * q)
      rw [Nat.mul_comm (c * q), ← Nat.mul_assoc] at this
      omega
    have k := h.iter (n := B + (n - B) % (c * q)) (by omega) ((n - B) / (c * q) * c)
    rw [← e] at k
    rw [k]
    unfold gt
    rw [List.getElem?_map, List.getElem?_range hr, Int.natCast_mul, Int.mul_assoc]
    rfl
/-- the law's own search: a turn seen for a while is one -/
theorem seen_turn {s : Nat → Option Int} {N q : Nat} {m : Int} (h : Qp s N q m) (h0 : 0 < q) {b t W : Nat} {g : Int} (hW : N + q ≤ W) (hb : b ≤ N) (hs : ∀ n, b ≤ n → n < W → s (n + t) = later1 g (s n)) : Qp s b t g := by
  have k : Qp s N t g := h.spread h0 fun n h1 h2 => hs n (by omega) (by omega)
  intro n hn
  by_cases c : n < W
  · exact hs n hn c
  · exact k n (by omega)
end My

namespace My
open PySem PySem.Spec PyProof.Rows L2
local macro_rules | `(tactic| walk_at "side") => `(tactic| first | (dsimp only; omega) | exact ⟨by omega, by omega⟩ | exact Or.inl ⟨by omega, by omega⟩ | exact Or.inr ⟨by omega, by omega⟩ | decide)
local macro_rules | `(tactic| walk_at "sq") => `(tactic| first | assumption | exact SqL.of (by assumption) | exact SqT.of (by assumption) | (refine L2.Same.seq (by assumption) ?_; walk_at "sq") | (refine L2.Same.seqT (by assumption) ?_; walk_at "sq") | exact Or.inl (by walk_at "sq") | exact Or.inr (by walk_at "sq"))
local macro_rules | `(tactic| walk_at "1") => `(tactic| first
  | refine ⟨_, rfl, iteT ?_⟩
  | refine ⟨_, rfl, iteF ?_⟩
  | refine ⟨_, rfl, ?_⟩
  | refine ⟨_, _, rfl, rfl, (by walk_at "side"), ?_⟩
  | refine ⟨_, _, rfl, rfl, ?_⟩
  | refine ⟨_, _, _, _, true, rfl, .ty _, .base (.int _), kit_ty (a := "int") (by decide +kernel), ?_⟩
  | refine ⟨_, _, _, _, false, rfl, .ty _, .base (.int _), kit_ty (a := "int") (by decide +kernel), ?_⟩
  | refine ⟨_, _, rfl, (by walk_at "sq"), ?_⟩
  | refine ⟨_, _, _, _, rfl, rfl, (by walk_at "sq"), (by first | rfl | assumption), ?_⟩
  | refine Or.inl ⟨_, _, _, _, rfl, rfl, (by walk_at "sq"), (by first | rfl | assumption), ?_⟩
  | refine Or.inr (Or.inl ⟨_, _, _, _, rfl, rfl, (by walk_at "sq"), (by first | rfl | assumption), ?_⟩)
  | refine ⟨_, _, rfl, Or.inl ⟨(by walk_at "sq"), ?_⟩⟩
  | refine ⟨rfl, ?_⟩
  | refine iteT ?_
  | refine iteF ?_
  | refine ⟨_, _, _, _, _, rfl, (by assumption), (by assumption), (by assumption), (by assumption), ?_⟩
  | refine Or.inl ⟨_, rfl, ?_⟩
  | refine Or.inr ⟨_, rfl, ?_⟩
  | refine ⟨_, _, rfl, (by walk_at "side"), ?_⟩
  | refine ⟨_, _, rfl, ?_⟩)
local macro_rules | `(tactic| walk_at "fld") => `(tactic| skip)
local macro_rules | `(tactic| walk_at "s") => `(tactic| repeat walk_at "1")
local macro_rules | `(tactic| walk_at "size") => `(tactic| first | exact Nat.le_of_ble_eq_true rfl | (simp only [List.length_map, List.length_append, List.length_cons, List.length_nil]; omega))
local macro_rules | `(tactic| walk_at "new") => `(tactic| (first | refine ⟨(by walk_at "size"), fun p hp => ?_⟩ | refine fun p hp => ?_); (generalize hq : upd _ p _ = H1); (obtain ⟨s, e⟩ := new_facts hp hq); clear hq)

section
variable {P : Program} {w : World} {K : PySem.W.Frag} {mg : Str → Option Value} {base : Heap} {C : Addr}
/-- a row of one thing -/
theorem made_one {x : Option Int} {f' a' : List (Option Int)} {m' : Int} (M : MadeOf [] [x] 0 f' a' m') : f' = [] ∧ a' = [x] ∧ m' = 0 := by
  obtain ⟨t, b, F, S, rfl, rfl, rfl⟩ := M
  have h1 := F.fits.pos
  have h2 := F.le
  have h3 := S.le
  simp only [List.length_cons, List.length_nil] at h2 h3
  have ht : t = 1 := by omega
  have hb : b = 0 := by omega
  subst ht hb
  exact ⟨rfl, rfl, by rw [Int.zero_mul, Int.zero_ediv]⟩
def spOne (C : Addr) (x : Option Int) : Sp := fun vs H Q _ => vs = [] ∧ ∀ H' q, Same H H' → H q = none → RowAt C H' q [] [x] 0 → Q (.ref q) H'
abbrev s_unit : Stmt := topS 22
theorem sc_unit : FnScope [] [] (defScope s_unit) := ⟨rfl, rfl, rfl, by decide +kernel, rfl, by decide +kernel, by decide +kernel⟩
theorem ok_unit (D : Df K mg "unit" s_unit []) (o_Row : Mks P w K mg base "Row" C 4 ["self", "first", "again", "more"] (spInit C)) : Own P w K mg base "unit" 6 [] (spOne C (some 0)) := by
  refine D.own sc_unit (fun vs H Q E h => ?_) (fun fa cdv A outer s H vs Q E hr h => ?_)
  · obtain ⟨rfl, _⟩ := h
    rfl
  · obtain ⟨rfl, k⟩ := h
    refine ⟨_, (pss_one (ps_ret (pe_mks o_Row (hr.mono (by decide)) (pa_cons (pe_tup pa_nil) (pa_cons (pe_tup (pa_cons pe_int pa_nil)) (pa_cons pe_int pa_nil)))))), ?_⟩
    walk_at "new"
    rename_i p1 n1 H1 s1 e1
    walk_at "s"
    walk_at "new"
    rename_i p2 n2 H2 s2 e2
    walk_at "s"
    intro x dx nx ndx nex
    have sx : Same H2 (upd (upd H2 dx (.own x)) x (.ins C dx [])) := fun b o e => by
      rw [upd_ne (ne_of_none e nx), upd_ne (ne_of_none e ndx)]
      exact e
    refine ⟨H2, x, dx, p1, p2, [], [some 0], 0, rfl, nx, sx, upd_same, Or.inr (s2 _ _ e1), Or.inr e2, ?_, by decide, by decide, by decide, by decide, fun H' f' a' m' s3 r3 mo => ⟨rfl, ?_⟩⟩
    · refine ⟨rfl, rfl, fun z => (nomatch z), ?_⟩
      first
        | exact Or.inl ⟨0, 0, rfl, rfl, fun e he => (nomatch he), by decide, by decide⟩
        | exact Or.inr ⟨rfl, rfl, Or.inl rfl, rfl⟩
    · obtain ⟨rfl, rfl, rfl⟩ := made_one mo
      exact k _ _ (s1.trans (s2.trans s3)) (s1.free (s2.free nx)) r3
abbrev s_empty : Stmt := topS 23
theorem sc_empty : FnScope [] [] (defScope s_empty) := ⟨rfl, rfl, rfl, by decide +kernel, rfl, by decide +kernel, by decide +kernel⟩
theorem ok_empty (D : Df K mg "empty" s_empty []) (o_Row : Mks P w K mg base "Row" C 4 ["self", "first", "again", "more"] (spInit C)) : Own P w K mg base "empty" 6 [] (spOne C none) := by
  refine D.own sc_empty (fun vs H Q E h => ?_) (fun fa cdv A outer s H vs Q E hr h => ?_)
  · obtain ⟨rfl, _⟩ := h
    rfl
  · obtain ⟨rfl, k⟩ := h
    refine ⟨_, (pss_one (ps_ret (pe_mks o_Row (hr.mono (by decide)) (pa_cons (pe_tup pa_nil) (pa_cons (pe_tup (pa_cons pe_non pa_nil)) (pa_cons pe_int pa_nil)))))), ?_⟩
    walk_at "new"
    rename_i p1 n1 H1 s1 e1
    walk_at "s"
    walk_at "new"
    rename_i p2 n2 H2 s2 e2
    walk_at "s"
    intro x dx nx ndx nex
    have sx : Same H2 (upd (upd H2 dx (.own x)) x (.ins C dx [])) := fun b o e => by
      rw [upd_ne (ne_of_none e nx), upd_ne (ne_of_none e ndx)]
      exact e
    refine ⟨H2, x, dx, p1, p2, [], [none], 0, rfl, nx, sx, upd_same, Or.inr (s2 _ _ e1), Or.inr e2, ?_, by decide, by decide, by decide, by decide, fun H' f' a' m' s3 r3 mo => ⟨rfl, ?_⟩⟩
    · refine ⟨rfl, rfl, fun z => (nomatch z), ?_⟩
      first
        | exact Or.inl ⟨0, 0, rfl, rfl, fun e he => (nomatch he), by decide, by decide⟩
        | exact Or.inr ⟨rfl, rfl, Or.inl rfl, rfl⟩
    · obtain ⟨rfl, rfl, rfl⟩ := made_one mo
      exact k _ _ (s1.trans (s2.trans s3)) (s1.free (s2.free nx)) r3
end
end My

namespace My
open PySem PySem.Spec PyProof.Rows L2
local macro_rules | `(tactic| walk_at "side") => `(tactic| first | (dsimp only; omega) | exact ⟨by omega, by omega⟩ | exact Or.inl ⟨by omega, by omega⟩ | exact Or.inr ⟨by omega, by omega⟩ | decide)
local macro_rules | `(tactic| walk_at "sq") => `(tactic| first | assumption | exact SqL.of (by assumption) | exact SqT.of (by assumption) | (refine L2.Same.seq (by assumption) ?_; walk_at "sq") | (refine L2.Same.seqT (by assumption) ?_; walk_at "sq") | exact Or.inl (by walk_at "sq") | exact Or.inr (by walk_at "sq"))
local macro_rules | `(tactic| walk_at "1") => `(tactic| first
  | refine ⟨_, rfl, iteT ?_⟩
  | refine ⟨_, rfl, iteF ?_⟩
  | refine ⟨_, rfl, ?_⟩
  | refine ⟨_, _, rfl, rfl, (by walk_at "side"), ?_⟩
  | refine ⟨_, _, rfl, rfl, ?_⟩
  | refine ⟨_, _, _, _, true, rfl, .ty _, .base (.int _), kit_ty (a := "int") (by decide +kernel), ?_⟩
  | refine ⟨_, _, _, _, false, rfl, .ty _, .base (.int _), kit_ty (a := "int") (by decide +kernel), ?_⟩
  | refine ⟨_, _, rfl, (by walk_at "sq"), ?_⟩
  | refine ⟨_, _, _, _, rfl, rfl, (by walk_at "sq"), (by first | rfl | assumption), ?_⟩
  | refine Or.inl ⟨_, _, _, _, rfl, rfl, (by walk_at "sq"), (by first | rfl | assumption), ?_⟩
  | refine Or.inr (Or.inl ⟨_, _, _, _, rfl, rfl, (by walk_at "sq"), (by first | rfl | assumption), ?_⟩)
  | refine ⟨_, _, rfl, Or.inl ⟨(by walk_at "sq"), ?_⟩⟩
  | refine ⟨rfl, ?_⟩
  | refine iteT ?_
  | refine iteF ?_
  | refine ⟨_, _, _, _, _, rfl, (by assumption), (by assumption), (by assumption), (by assumption), ?_⟩
  | refine Or.inl ⟨_, rfl, ?_⟩
  | refine Or.inr ⟨_, rfl, ?_⟩
  | refine ⟨_, _, rfl, (by walk_at "side"), ?_⟩
  | refine ⟨_, _, rfl, ?_⟩)
local macro_rules | `(tactic| walk_at "fld") => `(tactic| skip)
local macro_rules | `(tactic| walk_at "s") => `(tactic| repeat walk_at "1")
local macro_rules | `(tactic| walk_at "size") => `(tactic| first | exact Nat.le_of_ble_eq_true rfl | (simp only [List.length_map, List.length_append, List.length_cons, List.length_nil]; omega))
local macro_rules | `(tactic| walk_at "new") => `(tactic| (first | refine ⟨(by walk_at "size"), fun p hp => ?_⟩ | refine fun p hp => ?_); (generalize hq : upd _ p _ = H1); (obtain ⟨s, e⟩ := new_facts hp hq); clear hq)

theorem Same.at {H H' : Hp} {a : Addr} {o : HO} (e : Same H H') (h : H a = some o) : H' a = some o := e _ _ h
theorem Bx.at {b : Addr} {H H' : Hp} {a : Addr} {o : HO} (e : Bx b H H') (n : a ≠ b) (h : H a = some o) : H' a = some o := e _ _ n h
theorem Bx.free {b p : Addr} {H H' : Hp} (s : Bx b H H') (n : p ≠ b) (h : H' p = none) : H p = none := by
  cases q : H p with
  | none => rfl
  | some o =>
    have := s _ _ n q
    rw [h] at this
    cases this
local macro_rules | `(tactic| walk_at "at") => `(tactic| first | assumption | (refine My.Same.at (by assumption) ?_; walk_at "at") | (refine My.Bx.at (by assumption) (by assumption) ?_; walk_at "at"))

section
variable {P : Program} {w : World} {K : PySem.W.Frag} {mg : Str → Option Value} {base : Heap} {C : Addr}
abbrev s_law_wide : Stmt := topS 34
theorem sc_law_wide : FnScope ["box", "told", "begin", "turn", "some"] ["box", "told"] (defScope s_law_wide) := ⟨rfl, rfl, rfl, by decide +kernel, rfl, by decide +kernel, by decide +kernel⟩
def wideF (f a : List (Option Int)) (m : Int) (B : Nat) : List (Option Int) := (List.range B).map (tmR f a m)
def wideA (f a : List (Option Int)) (m : Int) (B T : Nat) : List (Option Int) := (List.range T).map fun i => tmR f a m (B + i)
def spWide : Sp := fun vs H Q _ => ∃ (b p : Addr) (f a : List (Option Int)) (m : Int), vs = [.ref b, .ref p] ∧ BoxAt H b ∧ ToldB b H p f a m ∧ ShapeG f a m ∧
  ∀ (H' : Hp) (q : Addr) (B c : Nat), Bx b H H' → BoxAt H' b → H q = none → f.length ≤ B → B ≤ f.length + 3 → 0 < c → c ≤ 3 → ToldB b H' q (wideF f a m B) (wideA f a m B (c * a.length)) (c * m) → Q (.ref q) H'
theorem range_split (s : Nat → Option Int) (B T : Nat) : ((List.range (B + T)).map s).take B = (List.range B).map s ∧ ((List.range (B + T)).map s).drop B = (List.range T).map fun i => s (B + i) := by
  have hl : ((List.range B).map s).length = B := by rw [List.length_map, List.length_range]
  rw [List.range_add, List.map_append, List.map_map]
  refine ⟨?_, ?_⟩
  · rw [List.take_left' hl]
  · rw [List.drop_left' hl]
    rfl
theorem ok_law_wide (D : Df K mg "_law_wide" s_law_wide ["box", "told"]) (T : Txt mg) (o_law_take : Own P w K mg base "_law_take" 1 ["box", "many"] spTake) (o_law_times : Own P w K mg base "_law_times" 2 ["told", "many"] spTimes) : Own P w K mg base "_law_wide" 3 ["box", "told"] spWide := by
  refine D.own sc_law_wide (fun vs H Q E h => ?_) (fun fa cdv A outer s H vs Q E hr h => ?_)
  · obtain ⟨_, _, _, _, _, rfl, _⟩ := h
    rfl
  · obtain ⟨b, p, f, a, m, rfl, hb, hT, G, k⟩ := h
    obtain ⟨pf, pa, npb, nfb, nab, h1, h2, h3⟩ := id hT
    have h1000 : 1000 < sizeLine := small1000 (Nat.le_refl _)
    have hlf : (f.map ov).length = f.length := List.length_map ..
    have hla : (a.map ov).length = a.length := List.length_map ..
    have l := G.lens
    have pt := G.parts
    have m0 := pt.m0
    have hne := G.ne
    refine ⟨_, (pss_cons (ps_par (i := 2) (j := 3) (by rfl) sc_law_wide.nd rfl rfl (by decide) rfl rfl (pa_cons (pe_op op_add (pe_callB call_len_seq (by rfl) T.len PySem.boot_len (pa_cons (pe_ix ix_tup (pv 1) pe_int (fun _ _ => rfl)) pa_nil)) (pe_own o_law_take (hr.mono (by decide)) (pa_cons (pv 0) (pa_cons pe_int pa_nil)))) (pa_cons (pe_op op_mul (pe_callB call_len_seq (by rfl) T.len PySem.boot_len (pa_cons (pe_ix ix_tup (pv 1) pe_int (fun _ _ => rfl)) pa_nil)) (pe_op op_add pe_int (pe_own o_law_take (hr.mono (by decide)) (pa_cons (pv 0) (pa_cons pe_int pa_nil))))) pa_nil)) (by rfl))
  (pss_cons (ps_set (i := 4) sc_law_wide.nd rfl (Or.inl rfl) (pe_own o_law_times (hr.mono (by decide)) (pa_cons (pv 1) (pa_cons (pe_op op_add (pv 2) (pv 3)) pa_nil))))
  (pss_one (ps_ret (pe_tup (pa_cons (pe_slice sl_list (pv 4) po_none (po_some (pv 2))) (pa_cons (pe_slice sl_list (pv 4) (po_some (pv 2)) po_none) (pa_cons (pe_op op_mul (pe_ix ix_tup (pv 1) pe_int (fun _ _ => rfl)) (pe_op op_fdiv (pv 3) (pe_callB call_len_seq (by rfl) T.len PySem.boot_len (pa_cons (pe_ix ix_tup (pv 1) pe_int (fun _ _ => rfl)) pa_nil)))) pa_nil)))))))), ?_⟩
    walk_at "s"
    refine ⟨by decide, hb, fun H1 n1 hn1 s1 b1 => ?_⟩
    have hn1' : n1 < 4 := hn1
    have e1 := s1 _ _ npb h1
    have e1f := s1 _ _ nfb h2
    have e1a := s1 _ _ nab h3
    walk_at "s"
    refine ⟨by decide, b1, fun H2 n2 hn2 s2 b2 => ?_⟩
    have hn2' : n2 < 3 := hn2
    have e2 := s2 _ _ npb e1
    have e2f := s2 _ _ nfb e1f
    have e2a := s2 _ _ nab e1a
    clear e1 e1f e1a h1 h2 h3
    rw [hlf, hla]
    walk_at "s"
    have hT3 : (1 + n2) * a.length ≤ 3 * 12 := Nat.mul_le_mul (by omega) (by omega)
    have hTp : 0 < (1 + n2) * a.length := Nat.mul_pos (by omega) hne
    have eB : (f.length : Int) + (n1 : Int) = ((f.length + n1 : Nat) : Int) := by omega
    have eT : (a.length : Int) * (1 + (n2 : Int)) = (((1 + n2) * a.length : Nat) : Int) := by
      rw [Int.natCast_mul, Int.natCast_add, Int.mul_comm]
      rfl
    refine ⟨p, f, a, m, (f.length + n1) + (1 + n2) * a.length, ?_, ⟨pf, pa, e2, e2f, e2a⟩, pt, by omega, fun H3 q s3 nq e3 => ?_⟩
    · show [V.ref p, V.int (((f.length : Int) + (n1 : Int)) + (a.length : Int) * (1 + (n2 : Int)))] = _
      rw [eB, eT]
      rfl
    have b3 := b2.same s3
    have nqb : q ≠ b := b2.ne nq
    have e3p := s3 _ _ e2
    have e3a := s3 _ _ e2a
    have e3f := s3 _ _ e2f
    obtain ⟨rs1, rs2⟩ := range_split (tmR f a m) (f.length + n1) ((1 + n2) * a.length)
    have hlq : (((List.range ((f.length + n1) + (1 + n2) * a.length)).map (tmR f a m)).map ov).length = (f.length + n1) + (1 + n2) * a.length := by rw [List.length_map, List.length_map, List.length_range]
    have m9 := l.2.2
    have l12 := l.2.1
    walk_at "s"
    walk_at "new"
    rename_i pX nX H4 s4 e4
    have e4' : H4 pX = some (.lst ((wideF f a m (f.length + n1)).map ov)) := by
      rw [e4]
      show some (HO.lst (cutV _ none (some ((f.length : Int) + (n1 : Int))))) = _
      rw [eB, cut_to (by omega), ← List.map_take, rs1]
      rfl
    have e4q := s4 _ _ e3
    have e4p := s4 _ _ e3p
    have e4a := s4 _ _ e3a
    clear e4
    walk_at "s"
    walk_at "new"
    rename_i pY nY H5 s5 e5
    have e5' : H5 pY = some (.lst ((wideA f a m (f.length + n1) ((1 + n2) * a.length)).map ov)) := by
      rw [e5]
      show some (HO.lst (cutV _ (some ((f.length : Int) + (n1 : Int))) none)) = _
      rw [eB, cut_from (by omega), ← List.map_drop, rs2]
      rfl
    have e5p := s5 _ _ e4p
    have e5a := s5 _ _ e4a
    have e5x := s5 _ _ e4'
    clear e5 e4'
    walk_at "s"
    walk_at "new"
    rename_i pT nT H6 s6 e6
    have nXb : pX ≠ b := b3.ne nX
    have nYb : pY ≠ b := (b3.same s4).ne nY
    have nTb : pT ≠ b := ((b3.same s4).same s5).ne nT
    have S6 : Bx b H H6 := s1.trans (s2.trans (Bx.of (s3.trans (s4.trans (s5.trans s6)))))
    refine k H6 pT (f.length + n1) (1 + n2) S6 (((b3.same s4).same s5).same s6) ?_ (by omega) (by omega) (by omega) (by omega) ⟨pX, pY, nTb, nXb, nYb, ?_, s6 _ _ e5x, s6 _ _ e5'⟩
    · exact (s1.trans (s2.trans (Bx.of (s3.trans (s4.trans s5))))).free nTb nT
    · rw [e6]
      show some (HO.tup [V.ref pX, V.ref pY, V.int (m * ((a.length : Int) * (1 + (n2 : Int)) / ((a.map ov).length : Int)))]) = _
      rw [hla, Int.mul_ediv_cancel_left _ (by omega), Int.mul_comm]
      rfl
end
end My

namespace My
open PySem PySem.Spec PyProof.Rows L2
local macro_rules | `(tactic| walk_at "side") => `(tactic| first | (dsimp only; omega) | exact ⟨by omega, by omega⟩ | exact Or.inl ⟨by omega, by omega⟩ | exact Or.inr ⟨by omega, by omega⟩ | decide)
local macro_rules | `(tactic| walk_at "sq") => `(tactic| first | assumption | exact SqL.of (by assumption) | exact SqT.of (by assumption) | (refine L2.Same.seq (by assumption) ?_; walk_at "sq") | (refine L2.Same.seqT (by assumption) ?_; walk_at "sq") | exact Or.inl (by walk_at "sq") | exact Or.inr (by walk_at "sq"))
local macro_rules | `(tactic| walk_at "1") => `(tactic| first
  | refine ⟨_, rfl, iteT ?_⟩
  | refine ⟨_, rfl, iteF ?_⟩
  | refine ⟨_, rfl, ?_⟩
  | refine ⟨_, _, rfl, rfl, (by walk_at "side"), ?_⟩
  | refine ⟨_, _, rfl, rfl, ?_⟩
  | refine ⟨_, _, _, _, true, rfl, .ty _, .base (.int _), kit_ty (a := "int") (by decide +kernel), ?_⟩
  | refine ⟨_, _, _, _, false, rfl, .ty _, .base (.int _), kit_ty (a := "int") (by decide +kernel), ?_⟩
  | refine ⟨_, _, rfl, (by walk_at "sq"), ?_⟩
  | refine ⟨_, _, _, _, rfl, rfl, (by walk_at "sq"), (by first | rfl | assumption), ?_⟩
  | refine Or.inl ⟨_, _, _, _, rfl, rfl, (by walk_at "sq"), (by first | rfl | assumption), ?_⟩
  | refine Or.inr (Or.inl ⟨_, _, _, _, rfl, rfl, (by walk_at "sq"), (by first | rfl | assumption), ?_⟩)
  | refine ⟨_, _, rfl, Or.inl ⟨(by walk_at "sq"), ?_⟩⟩
  | refine ⟨rfl, ?_⟩
  | refine iteT ?_
  | refine iteF ?_
  | refine ⟨_, _, _, _, _, rfl, (by assumption), (by assumption), (by assumption), (by assumption), ?_⟩
  | refine Or.inl ⟨_, rfl, ?_⟩
  | refine Or.inr ⟨_, rfl, ?_⟩
  | refine ⟨_, _, rfl, (by walk_at "side"), ?_⟩
  | refine ⟨_, _, rfl, ?_⟩)
local macro_rules | `(tactic| walk_at "fld") => `(tactic| skip)
local macro_rules | `(tactic| walk_at "s") => `(tactic| repeat walk_at "1")
local macro_rules | `(tactic| walk_at "size") => `(tactic| first | exact Nat.le_of_ble_eq_true rfl | (simp only [List.length_map, List.length_append, List.length_cons, List.length_nil]; omega))
local macro_rules | `(tactic| walk_at "new") => `(tactic| (first | refine ⟨(by walk_at "size"), fun p hp => ?_⟩ | refine fun p hp => ?_); (generalize hq : upd _ p _ = H1); (obtain ⟨s, e⟩ := new_facts hp hq); clear hq)
local macro_rules | `(tactic| walk_at "at") => `(tactic| first | assumption | (refine My.Same.at (by assumption) ?_; walk_at "at") | (refine My.Bx.at (by assumption) (by assumption) ?_; walk_at "at"))

section
variable {P : Program} {w : World} {K : PySem.W.Frag} {mg : Str → Option Value} {base : Heap} {C : Addr}
abbrev s_law_great : Stmt := topS 36
theorem sc_law_great : FnScope ["box", "here", "some", "n"] ["box"] (defScope s_law_great) := ⟨rfl, rfl, rfl, by decide +kernel, rfl, by decide +kernel, by decide +kernel⟩
def spGreat : Sp := fun vs H Q _ => ∃ (b : Addr), vs = [.ref b] ∧ BoxAt H b ∧
  ∀ (H' : Hp) (q : Addr) (f a : List (Option Int)) (m : Int), Bx b H H' → BoxAt H' b → H q = none → ToldB b H' q f a m → ShapeG f a m → Q (.ref q) H'
theorem ok_law_great (D : Df K mg "_law_great" s_law_great ["box"]) (T : Txt mg) (o_law_take : Own P w K mg base "_law_take" 1 ["box", "many"] spTake) (o_law_pick : Own P w K mg base "_law_pick" 2 ["box", "some"] spPick) : Own P w K mg base "_law_great" 3 ["box"] spGreat := by
  refine D.own sc_law_great (fun vs H Q E h => ?_) (fun fa cdv A outer s H vs Q E hr h => ?_)
  · obtain ⟨_, rfl, _⟩ := h
    rfl
  · obtain ⟨b, rfl, hb, k⟩ := h
    have h1000 : 1000 < sizeLine := small1000 (Nat.le_refl _)
    refine ⟨_, (pss_cons (ps_par (i := 1) (j := 2) (by rfl) sc_law_great.nd rfl rfl (by decide) rfl rfl (pa_cons (pe_op op_sub (pe_own o_law_take (hr.mono (by decide)) (pa_cons (pv 0) (pa_cons pe_int pa_nil))) pe_int) (pa_cons (pe_lst pa_nil) pa_nil)) (by rfl))
  (pss_cons (ps_for PassesOwn.never rfl (pi_range1 (by rfl) T.range (pa_cons pe_int pa_nil)) (pg_name (i := 3) sc_law_great.nd rfl (Or.inl rfl))
    (pss_cons (ps_expr (pe_bm PySem.F.plainAttrs_list PySem.F.slot_list_append PySem.F.type_list_append mt_append (pv 2) (pa_cons (pv 1) pa_nil)))
      (pss_one (ps_set (i := 1) sc_law_great.nd rfl (Or.inl rfl) (pe_op op_add (pv 1) (pe_own o_law_pick (hr.mono (by decide)) (pa_cons (pv 0) (pa_cons (pe_lst (pa_cons pe_int (pa_cons pe_int (pa_cons pe_int (pa_cons pe_int pa_nil))))) pa_nil))))))))
  (pss_one (ps_ret (pe_tup (pa_cons (pe_slice sl_list (pv 2) po_none (po_some pe_int)) (pa_cons (pe_slice sl_list (pv 2) (po_some pe_int) po_none) (pa_cons (pe_callB (call_min2 rfl) (by rfl) T.min (by decide +kernel) (pa_cons pe_int (pa_cons (pe_op op_add (pe_op op_sub (pe_ix ix_list (pv 2) pe_int (fun _ _ => rfl)) (pe_ix ix_list (pv 2) pe_int (fun _ _ => rfl))) (pe_own o_law_take (hr.mono (by decide)) (pa_cons (pv 0) (pa_cons pe_int pa_nil)))) pa_nil))) pa_nil)))))))), ?_⟩
    walk_at "s"
    refine ⟨by decide, hb, fun H1 n0 hn0 s1 b1 => ?_⟩
    have hn0' : n0 < 40 := hn0
    walk_at "s"
    generalize hst : (n0 : Int) - 999 = st
    walk_at "new"
    rename_i pS nS H2 s2 e2
    have nSb : pS ≠ b := b1.ne nS
    have b2 := b1.same s2
    have S2 : Bx b H H2 := s1.trans (Bx.of s2)
    have nSH : H pS = none := s1.free nSb nS
    refine ⟨_, _, rfl, ?_⟩
    refine ⟨32, rfl, by decide, by decide, for_range (lo := 0) (n := 32) (fun i σ H' => ∃ (fl : List Int) (h : Int) (y : Option V), σ = [some (.ref b), some (.int h), some (.ref pS), y] ∧ Bx b H H' ∧ BoxAt H' b ∧ H' pS = some (.lst (fl.map V.int)) ∧ fl.length = i ∧ Up st fl h ∧ st ≤ h ∧ h ≤ st + 60 * i ∧ (∀ z, fl[20]? = some z → h ≤ z + 60 * (i - 20))) ?_ ?_ ?_⟩
    · refine ⟨[], st, none, ?_, S2, b2, e2, rfl, ⟨List.Pairwise.nil, fun x hx => nomatch hx⟩, Int.le_refl _, by omega, fun z hz => nomatch hz⟩
      rw [← hst]
      rfl
    · rintro i σ H' hi ⟨fl, h, y, rfl, S', b', e', hlen, up, h1, h2, h3⟩
      walk_at "s"
      refine ⟨.inl ⟨rfl, _, SqL.of e'⟩, _, rfl, pS, _, _, rfl, rfl, e', by rw [List.length_map]; omega, ?_⟩
      generalize hq : upd _ pS _ = H4
      obtain ⟨e4, o4⟩ := upd_facts hq
      clear hq
      have S4 : Bx b H H4 := fun c o nc e => by
        rw [o4 c (ne_of_none e nSH)]
        exact S' c o nc e
      have b4 : BoxAt H4 b := by
        obtain ⟨x, y, z, x0, hb⟩ := b'
        exact ⟨x, y, z, x0, by rw [o4 b nSb.symm]; exact hb⟩
      walk_at "s"
      walk_at "new"
      rename_i pL nL H5 s5 e5
      have b5 := b4.same s5
      have nLb : pL ≠ b := b4.ne nL
      refine ⟨b, pL, _, rfl, b5, nLb, e5, by decide, by decide, fun H6 x hx s6 b6 => ?_⟩
      obtain ⟨d, rfl, d0, d1⟩ : ∃ d : Int, x = .int d ∧ 0 ≤ d ∧ d ≤ 60 := by
        simp only [List.mem_cons, List.not_mem_nil, or_false] at hx
        rcases hx with rfl | rfl | rfl | rfl
        · exact ⟨0, rfl, by decide, by decide⟩
        · exact ⟨1, rfl, by decide, by decide⟩
        · exact ⟨7, rfl, by decide, by decide⟩
        · exact ⟨60, rfl, by decide, by decide⟩
      have e6 := s6 _ _ nSb (s5 _ _ e4)
      walk_at "s"
      refine ⟨fl ++ [h], h + d, _, rfl, S4.trans ((Bx.of s5).trans s6), b6, ?_, by simp [hlen], up.app h1 (by omega), by omega, by omega, fun z hz => ?_⟩
      · rw [e6, List.map_append]
        rfl
      · by_cases c : 20 < fl.length
        · rw [List.getElem?_append_left c] at hz
          have := h3 z hz
          omega
        · rw [List.getElem?_append_right (by omega)] at hz
          by_cases c2 : fl.length = 20
          · rw [c2] at hz
            have : h = z := Option.some.inj hz
            omega
          · rw [List.getElem?_eq_none (by simp; omega)] at hz
            cases hz
    · rintro σ H' ⟨fl, h, y, rfl, S', b', e', hlen, up, h1, h2, h3⟩
      have l20 : 20 < fl.length := by omega
      have l31 : 31 < fl.length := by omega
      have g20 : fl[20]? = some fl[20] := List.getElem?_eq_getElem l20
      have a20 : atI (fl.map V.int) 20 = some (.int fl[20]) := atI_nat (j := 20) (by rw [List.getElem?_map, g20]; rfl)
      have a31 : atI (fl.map V.int) 31 = some (.int fl[31]) := atI_nat (j := 31) (by rw [List.getElem?_map, List.getElem?_eq_getElem l31]; rfl)
      have hpair := List.pairwise_iff_getElem.mp up.asc 20 31 l20 l31 (by decide)
      have hh := h3 _ g20
      have hbd := up.bd
      have h31 := hbd fl[31] (List.getElem_mem l31)
      have hml : (fl.map V.int).length = 32 := by rw [List.length_map, hlen]
      walk_at "s"
      walk_at "new"
      rename_i pX nX H3 s3 e3
      have e3' : H3 pX = some (.lst (((fl.take 20).map some).map ov)) := by
        rw [e3]
        show some (HO.lst (cutV _ none (some ((20 : Nat) : Int)))) = _
        rw [cut_to (by omega), ← List.map_take, ov_some]
      have e3s := s3 _ _ e'
      clear e3
      walk_at "s"
      walk_at "new"
      rename_i pY nY H4 s4 e4
      have e4' : H4 pY = some (.lst (((fl.drop 20).map some).map ov)) := by
        rw [e4]
        show some (HO.lst (cutV _ (some ((20 : Nat) : Int)) none)) = _
        rw [cut_from (by omega), ← List.map_drop, ov_some]
      have e4s := s4 _ _ e3s
      have e4x := s4 _ _ e3'
      have b4 := (b'.same s3).same s4
      have nXb : pX ≠ b := b'.ne nX
      have nYb : pY ≠ b := (b'.same s3).ne nY
      clear e4 e3' e3s e'
      walk_at "s"
      refine ⟨by decide, b4, fun H5 n5 hn5 s5 b5 => ?_⟩
      have hn5' : n5 < 200 := hn5
      have e5x := s5 _ _ nXb e4x
      have e5y := s5 _ _ nYb e4'
      refine ⟨_, _, rfl, rfl, ?_⟩
      refine ⟨_, _, rfl, ?_⟩
      walk_at "new"
      rename_i pT nT H6 s6 e6
      have nTb : pT ≠ b := b5.ne nT
      have S5 : Bx b H H5 := S'.trans ((Bx.of (s3.trans s4)).trans s5)
      have hm : ∃ m : Int, m = (if (fl[31] - fl[20] + (n5 : Int)) < 999 then (fl[31] - fl[20] + (n5 : Int)) else 999) ∧ fl[31] - fl[20] ≤ m ∧ m ≤ 999 := by
        refine ⟨_, rfl, ?_⟩
        split <;> omega
      obtain ⟨m, em, hm1, hm2⟩ := hm
      have e6' : H6 pT = some (.tup [.ref pX, .ref pY, .int m]) := by
        rw [e6, em]
      have hd : fl.drop 20 = fl[20] :: fl.drop 21 := List.drop_eq_getElem_cons l20
      have hlast : (fl.drop 20).getLast? = some fl[31] := by
        rw [List.getLast?_eq_getElem?, List.getElem?_drop, List.length_drop, show 20 + (fl.length - 20 - 1) = 31 by omega, List.getElem?_eq_getElem l31]
      refine k H6 pT ((fl.take 20).map some) ((fl.drop 20).map some) m (S5.trans (Bx.of s6)) (b5.same s6) (S5.free nTb nT) ⟨pX, pY, nTb, nXb, nYb, e6', s6 _ _ e5x, s6 _ _ e5y⟩
        ⟨0, fl.take 20, fl.drop 20, fl[20], fl[31], rfl, rfl, by rw [List.take_append_drop]; exact up.asc, by rw [hd]; rfl, hlast, hm1, hm2, by decide, by rw [List.length_take]; omega, by rw [List.length_drop]; omega, fun x hx => ?_⟩
      rw [List.take_append_drop] at hx
      have := hbd x hx
      omega
end
end My

namespace My
open PySem PySem.Spec PyProof.Rows L2
local macro_rules | `(tactic| walk_at "side") => `(tactic| first | (dsimp only; omega) | exact ⟨by omega, by omega⟩ | exact Or.inl ⟨by omega, by omega⟩ | exact Or.inr ⟨by omega, by omega⟩ | decide)
local macro_rules | `(tactic| walk_at "sq") => `(tactic| first | assumption | exact SqL.of (by assumption) | exact SqT.of (by assumption) | (refine L2.Same.seq (by assumption) ?_; walk_at "sq") | (refine L2.Same.seqT (by assumption) ?_; walk_at "sq") | exact Or.inl (by walk_at "sq") | exact Or.inr (by walk_at "sq"))
local macro_rules | `(tactic| walk_at "1") => `(tactic| first
  | refine ⟨_, rfl, iteT ?_⟩
  | refine ⟨_, rfl, iteF ?_⟩
  | refine ⟨_, rfl, ?_⟩
  | refine ⟨_, _, rfl, rfl, (by walk_at "side"), ?_⟩
  | refine ⟨_, _, rfl, rfl, ?_⟩
  | refine ⟨_, _, _, _, true, rfl, .ty _, .base (.int _), kit_ty (a := "int") (by decide +kernel), ?_⟩
  | refine ⟨_, _, _, _, false, rfl, .ty _, .base (.int _), kit_ty (a := "int") (by decide +kernel), ?_⟩
  | refine ⟨_, _, rfl, (by walk_at "sq"), ?_⟩
  | refine ⟨_, _, _, _, rfl, rfl, (by walk_at "sq"), (by first | rfl | assumption), ?_⟩
  | refine Or.inl ⟨_, _, _, _, rfl, rfl, (by walk_at "sq"), (by first | rfl | assumption), ?_⟩
  | refine Or.inr (Or.inl ⟨_, _, _, _, rfl, rfl, (by walk_at "sq"), (by first | rfl | assumption), ?_⟩)
  | refine ⟨_, _, rfl, Or.inl ⟨(by walk_at "sq"), ?_⟩⟩
  | refine ⟨rfl, ?_⟩
  | refine iteT ?_
  | refine iteF ?_
  | refine ⟨_, _, _, _, _, rfl, (by assumption), (by assumption), (by assumption), (by assumption), ?_⟩
  | refine Or.inl ⟨_, rfl, ?_⟩
  | refine Or.inr ⟨_, rfl, ?_⟩
  | refine ⟨_, _, rfl, (by walk_at "side"), ?_⟩
  | refine ⟨_, _, rfl, ?_⟩)
local macro_rules | `(tactic| walk_at "fld") => `(tactic| skip)
local macro_rules | `(tactic| walk_at "s") => `(tactic| repeat walk_at "1")
local macro_rules | `(tactic| walk_at "size") => `(tactic| first | exact Nat.le_of_ble_eq_true rfl | (simp only [List.length_map, List.length_append, List.length_cons, List.length_nil]; omega))
local macro_rules | `(tactic| walk_at "new") => `(tactic| (first | refine ⟨(by walk_at "size"), fun p hp => ?_⟩ | refine fun p hp => ?_); (generalize hq : upd _ p _ = H1); (obtain ⟨s, e⟩ := new_facts hp hq); clear hq)
local macro_rules | `(tactic| walk_at "at") => `(tactic| first | assumption | (refine My.Same.at (by assumption) ?_; walk_at "at") | (refine My.Bx.at (by assumption) (by assumption) ?_; walk_at "at"))

section
variable {P : Program} {w : World} {K : PySem.W.Frag} {mg : Str → Option Value} {base : Heap} {C : Addr}
abbrev s_law_least : Stmt := topS 35
theorem sc_law_least : FnScope ["told", "some", "turn", "begin", "more", "n"] ["told"] (defScope s_law_least) := ⟨rfl, rfl, rfl, by decide +kernel, rfl, by decide +kernel, by decide +kernel⟩
/-- at which of k goings from j on a row is not t goings ahead and g less -/
def bads (S : Nat → Option Int) (t : Nat) (g : Int) (j k : Nat) : List Nat := (List.range k).filter fun r => !decide (S (j + r + t) = later1 g (S (j + r)))
theorem bads_succ (S : Nat → Option Int) (t : Nat) (g : Int) (j k : Nat) : bads S t g j (k + 1) = if S (j + k + t) = later1 g (S (j + k)) then bads S t g j k else bads S t g j k ++ [k] := by
  unfold bads
  rw [List.range_succ, List.filter_append]
  by_cases e : S (j + k + t) = later1 g (S (j + k))
  · rw [if_pos e, List.filter_cons_of_neg (by simp [e]), List.filter_nil, List.append_nil]
  · rw [if_neg e, List.filter_cons_of_pos (by simp [e]), List.filter_nil]
theorem bads_nil {S : Nat → Option Int} {t : Nat} {g : Int} {j k : Nat} (h : bads S t g j k = []) (r : Nat) (hr : r < k) : S (j + r + t) = later1 g (S (j + r)) := by
  have := List.filter_eq_nil_iff.mp h r (List.mem_range.mpr hr)
  simpa using this
theorem bads_len (S : Nat → Option Int) (t : Nat) (g : Int) (j k : Nat) : (bads S t g j k).length ≤ k := by
  have := List.length_filter_le (fun r => !decide (S (j + r + t) = later1 g (S (j + r)))) (List.range k)
  rw [List.length_range] at this
  exact this
def spLeast : Sp := fun vs H Q _ => ∃ (p : Addr) (f a : List (Option Int)) (m : Int) (t b : Nat) (g : Int), vs = [.ref p] ∧ ToldAt H p f a m ∧ ShapeG f a m ∧ Canon (tmR f a m) t b g ∧ t ≤ a.length ∧ b ≤ f.length ∧
  ∀ (H' : Hp) (q qf qa : Addr), Same H H' → H q = none → H' q = some (.tup [.ref qf, .ref qa, .int g]) → H' qf = some (.tup (((List.range b).map (tmR f a m)).map ov)) → H' qa = some (.tup (((List.range t).map fun i => tmR f a m (b + i)).map ov)) → Q (.ref q) H'
set_option maxHeartbeats 8000000 in
theorem ok_law_least (D : Df K mg "_law_least" s_law_least ["told"]) (T : Txt mg) (o_law_times : Own P w K mg base "_law_times" 2 ["told", "many"] spTimes) : Own P w K mg base "_law_least" 3 ["told"] spLeast := by
  refine D.own sc_law_least (fun vs H Q E h => ?_) (fun fa cdv A outer s H vs Q E hr h => ?_)
  · obtain ⟨_, _, _, _, _, _, _, rfl, _⟩ := h
    rfl
  · obtain ⟨p, f, a, m, t, b, g, rfl, hT, G, Cn, hta, hbf, k⟩ := h
    obtain ⟨pf, pa, h1, h2, h3⟩ := id hT
    have h1000 : 1000 < sizeLine := small1000 (Nat.le_refl _)
    have hlf : (f.map ov).length = f.length := List.length_map ..
    have hla : (a.map ov).length = a.length := List.length_map ..
    have l := G.lens
    have l20 := l.1
    have l12 := l.2.1
    have hne := G.ne
    have Qs := tm_qp (f := f) (m := m) hne
    refine ⟨_, (pss_cons (ps_set (i := 1) sc_law_least.nd rfl (Or.inr rfl) (pe_own o_law_times (hr.mono (by decide)) (pa_cons (pv 0) (pa_cons pe_int pa_nil))))
  (pss_cons (ps_for PassesOwn.never rfl (pi_range2 (by rfl) T.range (pa_cons pe_int (pa_cons (pe_op op_add (pe_callB call_len_seq (by rfl) T.len PySem.boot_len (pa_cons (pe_ix ix_tup (pv 0) pe_int (fun _ _ => rfl)) pa_nil)) pe_int) pa_nil))) (pg_name (i := 2) sc_law_least.nd rfl (Or.inr rfl))
    (pss_one (ps_for PassesOwn.never rfl (pi_range1 (by rfl) T.range (pa_cons (pe_op op_add (pe_callB call_len_seq (by rfl) T.len PySem.boot_len (pa_cons (pe_ix ix_tup (pv 0) pe_int (fun _ _ => rfl)) pa_nil)) pe_int) pa_nil)) (pg_name (i := 3) sc_law_least.nd rfl (Or.inl rfl))
        (pss_one (ps_if (pt_cmpR op_notN (pe_ix ix_list (pv 1) (pv 3) (fun _ _ => rfl)) pe_non (nomark _))
            (pss_cons (ps_set (i := 4) sc_law_least.nd rfl (Or.inr rfl) (pe_op op_sub (pe_ix ix_list (pv 1) (pe_op op_add (pv 3) (pv 2)) (fun _ _ => rfl)) (pe_ix ix_list (pv 1) (pv 3) (fun _ _ => rfl))))
              (pss_one (ps_if (pt_cmpR (op_eqD hr.units) (pe_lc (own := [("n", 5)]) (g := gName 5) (tt := (tTest (tOp _ (tOp _ (tOp (rIxL K) (tVar 1) (tOp _ (tVar 5) (tVar 2))) (tOp (rIxL K) (tVar 1) (tVar 5))) (tVar 4)))) rfl sc_law_least.nd (pi_range2 (by rfl) T.range (pa_cons (pv 3) (pa_cons pe_int pa_nil))) (blkOk_by (own := [("n", 5)]) (N := ["told", "some", "turn", "begin", "more", "n"]) (sc := defScope s_law_least) (by decide +kernel)) (fun _ _ _ _ _ => (pg_name (i := 5) sc_law_least.nd rfl (Or.inl rfl))) (fun _ _ _ _ _ => (pts_one (pt_cmpR op_ne (pe_op op_sub (pe_ix ix_list (pv 1) (pe_op op_add (pv 5) (pv 2)) (fun _ _ => rfl)) (pe_ix ix_list (pv 1) (pv 5) (fun _ _ => rfl))) (pv 4) (nomark _)))) (fun _ _ _ _ _ => pe_int)) (pe_lst pa_nil) (nomark _))
                (pss_one (ps_ret (pe_tup (pa_cons (pe_callTy call_tuple_of (by rfl) T.tuple (by decide +kernel) (pa_cons (pe_slice sl_list (pv 1) po_none (po_some (pv 3))) pa_nil)) (pa_cons (pe_callTy call_tuple_of (by rfl) T.tuple (by decide +kernel) (pa_cons (pe_slice sl_list (pv 1) (po_some (pv 3)) (po_some (pe_op op_add (pv 3) (pv 2)))) pa_nil)) (pa_cons (pv 4) pa_nil))))))
                pss_nil)))
            pss_nil)))))
  (pss_one (ps_ret pe_non)))), ?_⟩
    generalize hs : tmR f a m = S at Cn Qs k
    walk_at "s"
    refine ⟨p, f, a, m, 80, rfl, hT, G.parts, by decide, fun H1 pS s1 nS e1 => ?_⟩
    rw [hs] at e1
    obtain ⟨N80, hN80⟩ : ∃ N : Nat, N = 80 := ⟨_, rfl⟩
    rw [← hN80] at e1
    generalize hL : ((List.range N80).map S).map ov = L at e1
    have hLl : L.length = 80 := by rw [← hL, List.length_map, List.length_map, List.length_range, hN80]
    have h1' := s1 _ _ h1
    have h2' := s1 _ _ h2
    have h3' := s1 _ _ h3
    have smono : ∀ n, leO (S n) (S (n + 1)) := fun n => hs ▸ G.mono n
    have smono' : ∀ i j, i ≤ j → leO (S i) (S j) := fun i j h => by
      rw [← hs]
      exact mono_all G.mono h
    have up1 : ∀ i j x, i ≤ j → S i = some x → ∃ y, S j = some y := fun i j x h e => by
      have := smono' i j h
      rw [e] at this
      cases q : S j with
      | none =>
        rw [q] at this
        exact this.elim
      | some y => exact ⟨y, rfl⟩
    have ix : ∀ n : Nat, n < 80 → atI L (n : Int) = some (ov (S n)) := fun n h => atI_nat (by
      rw [← hL, List.getElem?_map, List.getElem?_map, List.getElem?_range (by omega)]
      rfl)
    have bsome : ∃ x, S b = some x := by
      obtain ⟨y, hy⟩ := G.live (f.length + b) (by omega)
      rw [hs] at hy
      cases q : S b with
      | some x => exact ⟨x, rfl⟩
      | none =>
        exfalso
        have h := Cn.qp.iter (Nat.le_refl b) (f.length + b)
        rw [q] at h
        have ht := Cn.pos
        have hge : f.length + b ≤ b + (f.length + b) * t := by
          have : (f.length + b) * 1 ≤ (f.length + b) * t := Nat.mul_le_mul_left _ ht
          omega
        obtain ⟨z, hz⟩ := up1 _ _ _ hge hy
        rw [h] at hz
        cases hz
    walk_at "s"
    refine for_range (lo := 1) (fun i σ H' => ∃ y2 y3 y4, σ = [some (.ref p), some (.ref pS), y2, y3, y4, none] ∧ Same H1 H' ∧ i + 1 ≤ t) ⟨_, _, _, rfl, Same.refl _, Cn.pos⟩ ?_ ?_
    · rintro i σ H' hi ⟨y2, y3, y4, rfl, s2, hit⟩
      have h1'' := s2 _ _ h1'
      have h2'' := s2 _ _ h2'
      have ei : (1 : Int) + (i : Int) = ((i + 1 : Nat) : Int) := by omega
      rw [ei]
      walk_at "s"
      refine ⟨by omega, by omega, for_range (lo := 0) (fun j σ H'' => ∃ y3 y4, σ = [some (.ref p), some (.ref pS), some (.int ((i + 1 : Nat) : Int)), y3, y4, none] ∧ Same H1 H'' ∧ (i + 1 = t → j ≤ b)) ⟨_, _, rfl, s2, fun _ => Nat.zero_le _⟩ ?_ ?_⟩
      · rintro j σ H2 hj ⟨y3, y4, rfl, s3, hjb⟩
        have hj' : j < f.length + 1 := by omega
        have ej : (0 : Int) + (j : Int) = ((j : Nat) : Int) := by omega
        rw [ej]
        have e2 := s3 _ _ e1
        have i0 := ix j (by omega)
        walk_at "s"
        have nxt : (i + 1 = t → j ≠ b) → (i + 1 = t → j + 1 ≤ b) := fun h e => by
          have := h e
          have := hjb e
          omega
        cases hS : S j with
        | none =>
          walk_at "s"
          refine nxt fun _ e => ?_
          obtain ⟨z, hz⟩ := bsome
          rw [← e, hS] at hz
          cases hz
        | some x0 =>
          obtain ⟨x1, hx1⟩ := up1 j (j + (i + 1)) x0 (by omega) hS
          have i1 := ix (j + (i + 1)) (by omega)
          have i0' := ix j (by omega)
          rw [hx1] at i1
          rw [hS] at i0'
          have ea : ((j : Nat) : Int) + ((i + 1 : Nat) : Int) = ((j + (i + 1) : Nat) : Int) := by omega
          rw [← ea] at i1
          walk_at "s"
          obtain ⟨gg, hgg⟩ : ∃ gg : Int, gg = x1 - x0 := ⟨_, rfl⟩
          refine fun Lc nLc => lc_range (lo := (j : Int)) (fun r H' => Same H2 H' ∧ H' Lc = some (.lst (((bads S (i + 1) gg j r).map fun _ => some (1 : Int)).map ov))) ⟨same_upd nLc, upd_same⟩ ?_ ?_
          · rintro r H' hr ⟨s4, e4⟩
            have hr' : r < 50 - j := by omega
            obtain ⟨y0, hy0⟩ := up1 j (j + r) x0 (by omega) hS
            obtain ⟨y1, hy1⟩ := up1 j (j + r + (i + 1)) x0 (by omega) hS
            have j0 := ix (j + r) (by omega)
            have j1 := ix (j + r + (i + 1)) (by omega)
            rw [hy0] at j0
            rw [hy1] at j1
            have er : (j : Int) + (r : Int) = ((j + r : Nat) : Int) := by omega
            have ea : ((j + r : Nat) : Int) + ((i + 1 : Nat) : Int) = ((j + r + (i + 1) : Nat) : Int) := by omega
            rw [← ea] at j1
            rw [er]
            have e4s := s4 _ _ e2
            have hlen := bads_len S (i + 1) gg j r
            walk_at "s"
            have hc : (S (j + r + (i + 1)) = later1 gg (S (j + r))) ↔ y1 - y0 = x1 - x0 := by
              rw [hy1, hy0, hgg]
              constructor
              · intro q
                have : y1 = y0 + (x1 - x0) := Option.some.inj q
                omega
              · intro q
                show some y1 = some (y0 + (x1 - x0))
                rw [← q]
                congr 1
                omega
            refine ite2 (fun c0 => ?_) (fun c0 => ?_)
            · have c : ¬ S (j + r + (i + 1)) = later1 gg (S (j + r)) := fun q => by
                have c0' : (!decide (V.int (y1 - y0) = V.int (x1 - x0))) = true := c0
                rw [hc.mp q, decide_eq_true rfl] at c0'
                cases c0'
              refine ⟨_, e4, by rw [List.length_map, List.length_map]; omega, s4.upd1 nLc, ?_⟩
              rw [upd_same, bads_succ, if_neg c, List.map_append, List.map_append]
              rfl
            · have c : S (j + r + (i + 1)) = later1 gg (S (j + r)) := Classical.byContradiction fun q => c0 (by
                show (!decide (V.int (y1 - y0) = V.int (x1 - x0))) = true
                rw [decide_eq_false (fun z => q (hc.mpr (V.int.inj z)))]
                rfl)
              refine ⟨s4, ?_⟩
              rw [bads_succ, if_pos c]
              exact e4
          · rintro H3 ⟨s4, e4⟩
            generalize hbad : bads S (i + 1) gg j ((50 : Int) - (j : Int)).toNat = bd at e4
            walk_at "new"
            rename_i pE nE H4 s5 e5
            have e4s := s5 _ _ e4
            refine rd_eqL (bd.map fun _ => some (1 : Int)) [] (SqL.of e4s) (SqL.of e5) ?_
            have e4m := s5 _ _ (s4 _ _ e2)
            by_cases hb : bd = []
            · subst hb
              have hbn := bads_nil hbad
              have hq : Qp S j (i + 1) gg := seen_turn (W := 50) Qs hne (by omega) (by omega) (fun n h1 h2 => by
                have := hbn (n - j) (by omega)
                rw [show j + (n - j) = n by omega] at this
                exact this)
              have ht := Cn.tl j (i + 1) gg (by omega) hq
              have eit : i + 1 = t := by omega
              have hbj := Cn.bl j gg (eit ▸ hq)
              have ejb : j = b := by
                have := hjb eit
                omega
              have egg : gg = g := by
                have q1 := hq j (Nat.le_refl _)
                have q2 := Cn.qp j (by omega)
                rw [← eit, q1] at q2
                exact later1_g (by rw [hS]; exact fun z => nomatch z) q2
              rw [show decide (([] : List Nat).map (fun _ => some (1 : Int)) = []) = true from rfl]
              subst ejb
              have hjN : j + (i + 1) ≤ N80 := by omega
              have spl := range_split S j (N80 - j)
              rw [show j + (N80 - j) = N80 by omega] at spl
              have spl2 := range_split (fun n => S (j + n)) (i + 1) (N80 - j - (i + 1))
              rw [show i + 1 + (N80 - j - (i + 1)) = N80 - j by omega] at spl2
              walk_at "s"
              walk_at "new"
              rename_i pU nU H5 s6 e6
              have e6' : H5 pU = some (.lst (((List.range j).map S).map ov)) := by
                rw [e6]
                show some (HO.lst (cutV _ none (some ((j : Nat) : Int)))) = _
                rw [cut_to (by omega), ← hL, ← List.map_take, spl.1]
              have e6m := s6 _ _ e4m
              clear e6
              walk_at "s"
              walk_at "new"
              rename_i pUt nUt H6 s7 e7
              have e7m := s7 _ _ e6m
              walk_at "s"
              walk_at "new"
              rename_i pW nW H7 s8 e8
              have e8' : H7 pW = some (.lst (((List.range t).map fun n => S (j + n)).map ov)) := by
                rw [e8]
                show some (HO.lst (cutV _ (some ((j : Nat) : Int)) (some (((j : Nat) : Int) + ((i + 1 : Nat) : Int))))) = _
                rw [show ((j : Nat) : Int) + ((i + 1 : Nat) : Int) = ((j + (i + 1) : Nat) : Int) by omega, cut_mid (by omega) (by omega), ← hL, ← List.map_drop, spl.2, ← List.map_take, show j + (i + 1) - j = i + 1 by omega, spl2.1, eit]
              clear e8
              walk_at "s"
              walk_at "new"
              rename_i pWt nWt H8 s9 e9
              walk_at "s"
              walk_at "new"
              rename_i pR nR H9 s10 e10
              have sAll : Same H H8 := s1.trans (s3.trans (s4.trans (s5.trans (s6.trans (s7.trans (s8.trans s9))))))
              refine k H9 pR pUt pWt (sAll.trans s10) (sAll.free nR) ?_ (s10 _ _ (s9 _ _ (s8 _ _ e7))) (s10 _ _ e9)
              rw [e10, ← egg, hgg]
            · rw [decide_eq_false (fun q => hb (List.map_eq_nil_iff.mp q))]
              walk_at "s"
              refine ⟨s3.trans (s4.trans s5), nxt fun eit ejb => hb ?_⟩
              rw [← hbad]
              unfold bads
              rw [List.filter_eq_nil_iff]
              intro r hr q
              have hr' := List.mem_range.mp hr
              have q1 := Cn.qp (j + r) (by omega)
              have q2 := Cn.qp j (by omega)
              have egg : gg = g := by
                rw [hS, ← eit, hx1] at q2
                have : x1 = x0 + g := Option.some.inj q2
                omega
              rw [← eit, ← egg] at q1
              simp [q1] at q
      · rintro σ H2 ⟨y3, y4, rfl, s3, hjb⟩
        refine ⟨_, _, _, rfl, s3, ?_⟩
        have : i + 1 ≠ t := fun e => by
          have := hjb e
          omega
        omega
    · rintro σ H2 ⟨y2, y3, y4, rfl, s2, hit⟩
      exfalso
      omega
end
end My

namespace My
open PySem PySem.Spec PyProof.Rows L2
local macro_rules | `(tactic| walk_at "side") => `(tactic| first | (dsimp only; omega) | exact ⟨by omega, by omega⟩ | exact Or.inl ⟨by omega, by omega⟩ | exact Or.inr ⟨by omega, by omega⟩ | decide)
local macro_rules | `(tactic| walk_at "sq") => `(tactic| first | assumption | exact SqL.of (by assumption) | exact SqT.of (by assumption) | (refine L2.Same.seq (by assumption) ?_; walk_at "sq") | (refine L2.Same.seqT (by assumption) ?_; walk_at "sq") | exact Or.inl (by walk_at "sq") | exact Or.inr (by walk_at "sq"))
local macro_rules | `(tactic| walk_at "1") => `(tactic| first
  | refine ⟨_, rfl, iteT ?_⟩
  | refine ⟨_, rfl, iteF ?_⟩
  | refine ⟨_, rfl, ?_⟩
  | refine ⟨_, _, rfl, rfl, (by walk_at "side"), ?_⟩
  | refine ⟨_, _, rfl, rfl, ?_⟩
  | refine ⟨_, _, _, _, true, rfl, .ty _, .base (.int _), kit_ty (a := "int") (by decide +kernel), ?_⟩
  | refine ⟨_, _, _, _, false, rfl, .ty _, .base (.int _), kit_ty (a := "int") (by decide +kernel), ?_⟩
  | refine ⟨_, _, rfl, (by walk_at "sq"), ?_⟩
  | refine ⟨_, _, _, _, rfl, rfl, (by walk_at "sq"), (by first | rfl | assumption), ?_⟩
  | refine Or.inl ⟨_, _, _, _, rfl, rfl, (by walk_at "sq"), (by first | rfl | assumption), ?_⟩
  | refine Or.inr (Or.inl ⟨_, _, _, _, rfl, rfl, (by walk_at "sq"), (by first | rfl | assumption), ?_⟩)
  | refine ⟨_, _, rfl, Or.inl ⟨(by walk_at "sq"), ?_⟩⟩
  | refine ⟨rfl, ?_⟩
  | refine iteT ?_
  | refine iteF ?_
  | refine ⟨_, _, _, _, _, rfl, (by assumption), (by assumption), (by assumption), (by assumption), ?_⟩
  | refine Or.inl ⟨_, rfl, ?_⟩
  | refine Or.inr ⟨_, rfl, ?_⟩
  | refine ⟨_, _, rfl, (by walk_at "side"), ?_⟩
  | refine ⟨_, _, rfl, ?_⟩)
local macro_rules | `(tactic| walk_at "fld") => `(tactic| skip)
local macro_rules | `(tactic| walk_at "s") => `(tactic| repeat walk_at "1")
local macro_rules | `(tactic| walk_at "size") => `(tactic| first | exact Nat.le_of_ble_eq_true rfl | (simp only [List.length_map, List.length_append, List.length_cons, List.length_nil]; omega))
local macro_rules | `(tactic| walk_at "new") => `(tactic| (first | refine ⟨(by walk_at "size"), fun p hp => ?_⟩ | refine fun p hp => ?_); (generalize hq : upd _ p _ = H1); (obtain ⟨s, e⟩ := new_facts hp hq); clear hq)
local macro_rules | `(tactic| walk_at "at") => `(tactic| first | assumption | (refine My.Same.at (by assumption) ?_; walk_at "at") | (refine My.Bx.at (by assumption) (by assumption) ?_; walk_at "at"))

theorem RowAt.bx {C b p : Addr} {H H' : Hp} {f a : List (Option Int)} {m : Int} (h : RowAt C H p f a m) (hb : BoxAt H b) (s : Bx b H H') : RowAt C H' p f a m := by
  obtain ⟨dx, pf, pa, h1, h2, h3⟩ := h
  obtain ⟨x, y, z, x0, e⟩ := hb
  have n1 : p ≠ b := fun q => by rw [q, e] at h1; cases h1
  have n2 : pf ≠ b := fun q => by rw [q, e] at h2; cases h2
  have n3 : pa ≠ b := fun q => by rw [q, e] at h3; cases h3
  exact ⟨dx, pf, pa, s _ _ n1 h1, s _ _ n2 h2, s _ _ n3 h3⟩
/-- a stronger reading -/
theorem pss_pre {X : Cx} {ss : List Stmt} {t u : TS} (h : PSs X ss t) (i : ∀ D σ H, u D σ H → t D σ H) : PSs X ss u := ⟨fun pins s σ H D I q => h.run pins s σ H D I (i D σ H q)⟩
theorem ps_pre {X : Cx} {st : Stmt} {t u : TS} (h : PS X st t) (i : ∀ D σ H, u D σ H → t D σ H) : PS X st u := ⟨fun pins s σ H D I q => h.run pins s σ H D I (i D σ H q)⟩
def forBody (s : Stmt) : List Stmt := match s with
  | .For _ _ b _ _ => b
  | _ => []
def nth (l : List Stmt) (i : Nat) : Stmt := l.getD i (.Pass ⟨0, 0, 0, 0⟩)
abbrev s_law : Stmt := topS 37
theorem sc_law : FnScope ["script", "k", "box", "before", "turn", "told", "wide", "first", "again", "made", "same", "nothing", "bare", "n"] ["script"] (defScope s_law) := ⟨rfl, rfl, rfl, by decide +kernel, rfl, by decide +kernel, by decide +kernel⟩
abbrev turnBody : List Stmt := forBody (nth (forBody (nth (defBody s_law) 0)) 1)
/-- a turn of one, seen from far on, is one from where the other comes again -/
theorem Qp.down {s : Nat → Option Int} {N q B t : Nat} {m g : Int} (h : Qp s N q m) (h0 : 0 < q) (h' : Qp s B t g) : Qp s N t g := by
  intro n hn
  have y1 := h.iter (n := n) hn B
  have y2 := h.iter (n := n + t) (by omega) B
  have hB : B ≤ n + B * q := by
    have : B * 1 ≤ B * q := Nat.mul_le_mul_left _ h0
    omega
  have y3 := h' (n + B * q) hB
  rw [show n + B * q + t = n + t + B * q by omega, y2, y1, later1_later1] at y3
  have y4 : later1 (B * m) (s (n + t)) = later1 (B * m) (later1 g (s n)) := by
    rw [y3, later1_later1]
    congr 1
    omega
  exact later1_inj y4
/-- a told row in another form: the same times -/
structure Same2 (f a : List (Option Int)) (m : Int) (wf wa : List (Option Int)) (mw : Int) : Prop where
  ok : OkRow wf wa mw
  pt : Parts wf wa mw
  eq : ∀ n, tmR wf wa mw n = tmR f a m n
  le : f.length ≤ wf.length
theorem Same2.refl {f a : List (Option Int)} {m : Int} (G : ShapeG f a m) : Same2 f a m f a m := ⟨G.ok, G.parts, fun _ => rfl, Nat.le_refl _⟩
theorem Same2.wide {f a : List (Option Int)} {m : Int} (G : ShapeG f a m) {B c : Nat} (h1 : f.length ≤ B) (h2 : B ≤ f.length + 3) (h3 : 0 < c) (h4 : c ≤ 3) : Same2 f a m (wideF f a m B) (wideA f a m B (c * a.length)) (c * m) := by
  have hne := G.ne
  have l := G.lens
  have m0 := G.parts.m0
  have Qs := tm_qp (f := f) (m := m) hne
  have hc0 : 0 < c * a.length := Nat.mul_pos h3 hne
  have hc1 : c * a.length ≤ 3 * 12 := Nat.mul_le_mul h4 l.2.1
  have hm0 : (0 : Int) ≤ (c : Int) * m := Int.mul_nonneg (Int.natCast_nonneg c) m0
  have hm1 : (c : Int) * m ≤ 3 * 999 := by
    have : (c : Int) * m ≤ 3 * m := Int.mul_le_mul_of_nonneg_right (by omega) m0
    omega
  have lf : (wideF f a m B).length = B := by unfold wideF; rw [List.length_map, List.length_range]
  have la : (wideA f a m B (c * a.length)).length = c * a.length := by unfold wideA; rw [List.length_map, List.length_range]
  refine ⟨ok_of_mono G.mono (fun n hn => G.live n (by omega)) hc0 hm0 (Qs.iter h1 c), ⟨fun e => ?_, by omega, by omega, hm0, by omega⟩, fun n => wide_times Qs h1 hne h3 n, by omega⟩
  rw [e] at la
  simp at la
  omega
/-- the made row of a told one -/
structure MadeBy (f a : List (Option Int)) (m : Int) (f' a' : List (Option Int)) (m' : Int) (t bb : Nat) : Prop where
  cn : Canon (tmR f a m) t bb m'
  ta : t ≤ a.length
  bf : bb ≤ f.length
  ef : f' = (List.range bb).map (tmR f a m)
  ea : a' = (List.range t).map (fun i => tmR f a m (bb + i))
theorem made_by {f a wf wa f' a' : List (Option Int)} {m mw m' : Int} (G : ShapeG f a m) (W : Same2 f a m wf wa mw) (M : MadeOf wf wa mw f' a' m') : ∃ t bb, MadeBy f a m f' a' m' t bb := by
  have hne := G.ne
  have e : tmR wf wa mw = tmR f a m := funext W.eq
  obtain ⟨t, bb, C, h1, h2, h3, h4⟩ := made_canon M (List.length_pos_iff.mpr W.pt.ne) (fun n hn => by
    rw [W.eq]
    obtain ⟨x, hx⟩ := G.live n (Nat.le_trans W.le hn)
    rw [hx]
    exact fun z => nomatch z)
  rw [e] at C h3 h4
  have Qs := tm_qp (f := f) (m := m) hne
  exact ⟨t, bb, C, C.tl _ _ _ hne Qs, C.bl _ _ (Qs.down hne C.qp), h3, h4⟩
theorem MadeBy.uniq {f a f1 a1 f2 a2 : List (Option Int)} {m m1 m2 : Int} {t1 b1 t2 b2 : Nat} (G : ShapeG f a m) (M : MadeBy f a m f1 a1 m1 t1 b1) (M' : MadeBy f a m f2 a2 m2 t2 b2) : f1 = f2 ∧ a1 = a2 ∧ m1 = m2 := by
  obtain ⟨rfl, rfl, e⟩ := M.cn.uniq M'.cn (fun N => ⟨f.length + N, by omega, by
    obtain ⟨x, hx⟩ := G.live (f.length + N) (by omega)
    rw [hx]
    exact fun z => nomatch z⟩)
  rw [M.ef, M.ea, M'.ef, M'.ea]
  exact ⟨rfl, rfl, e⟩
/-- the made row's times, lengths, sizes -/
theorem MadeBy.lens {f a f1 a1 : List (Option Int)} {m m1 : Int} {t bb : Nat} (G : ShapeG f a m) (M : MadeBy f a m f1 a1 m1 t bb) : f1.length = bb ∧ a1.length = t ∧ bb ≤ 20 ∧ t ≤ 12 ∧ 0 < t := by
  have l := G.lens
  refine ⟨by rw [M.ef, List.length_map, List.length_range], by rw [M.ea, List.length_map, List.length_range], by have := M.bf; omega, by have := M.ta; omega, M.cn.pos⟩
theorem MadeBy.grow {f a f1 a1 : List (Option Int)} {m m1 : Int} {t bb : Nat} (G : ShapeG f a m) (M : MadeBy f a m f1 a1 m1 t bb) : 0 ≤ m1 ∧ m1 ≤ 200000 := by
  have l := M.lens G
  have lg := G.lens
  obtain ⟨x, hx⟩ := G.live (f.length + bb) (by omega)
  have q := M.cn.qp (f.length + bb) (by omega)
  have mo := mono_all G.mono (i := f.length + bb) (j := f.length + bb + t) (by omega)
  have b1 := G.bound (n := f.length + bb) (by omega) hx
  rw [hx] at q
  have q' : tmR f a m (f.length + bb + t) = some (x + m1) := q
  have b2 := G.bound (n := f.length + bb + t) (by omega) q'
  rw [hx, q'] at mo
  have mo' : x ≤ x + m1 := mo
  omega
theorem MadeBy.small {f a f1 a1 : List (Option Int)} {m m1 : Int} {t bb : Nat} (G : ShapeG f a m) (M : MadeBy f a m f1 a1 m1 t bb) : Small f1 a1 m1 := by
  have l := M.lens G
  have g := M.grow G
  refine ⟨by omega, by omega, fun x hx i e => ?_, by omega⟩
  subst e
  have key : ∀ n, n < 40 → tmR f a m n = some i → i.natAbs < 10 ^ 20 := fun n hn h => by
    have := G.bound (n := n) (by omega) h
    omega
  rcases List.mem_append.mp hx with h | h
  · rw [M.ef] at h
    obtain ⟨n, hn, e⟩ := List.mem_map.mp h
    have := List.mem_range.mp hn
    exact key n (by omega) e
  · rw [M.ea] at h
    obtain ⟨n, hn, e⟩ := List.mem_map.mp h
    have := List.mem_range.mp hn
    exact key (bb + n) (by omega) e
theorem MadeBy.parts {f a f1 a1 : List (Option Int)} {m m1 : Int} {t bb : Nat} (G : ShapeG f a m) (M : MadeBy f a m f1 a1 m1 t bb) : Parts f1 a1 m1 := by
  have l := M.lens G
  have g := M.grow G
  refine ⟨fun e => ?_, by omega, by omega, g.1, by omega⟩
  rw [e] at l
  simp at l
  omega
theorem MadeBy.times {f a f1 a1 : List (Option Int)} {m m1 : Int} {t bb : Nat} (M : MadeBy f a m f1 a1 m1 t bb) (n : Nat) : tmR f1 a1 m1 n = tmR f a m n := by
  have := wide_times (c := 1) M.cn.qp (Nat.le_refl bb) M.cn.pos (by decide) n
  rw [Nat.one_mul, Int.natCast_one, Int.one_mul] at this
  rw [M.ef, M.ea]
  exact this
/-- two told rows: the made ones are equal just if sixty times are -/
theorem made_eq {f a f1 a1 g b g1 b1 : List (Option Int)} {m m1 k k1 : Int} {t bb t' bb' : Nat} (G : ShapeG f a m) (M : MadeBy f a m f1 a1 m1 t bb) (G' : ShapeG g b k) (M' : MadeBy g b k g1 b1 k1 t' bb') :
    decide (f1 = g1 ∧ a1 = b1 ∧ m1 = k1) = decide ((List.range 60).map (tmR f a m) = (List.range 60).map (tmR g b k)) := by
  refine decide_eq_decide.mpr ⟨fun h => ?_, fun h => ?_⟩
  · obtain ⟨rfl, rfl, rfl⟩ := h
    refine List.map_congr_left fun n _ => ?_
    rw [← M.times n, M'.times n]
  · have lg := G.lens
    have lg' := G'.lens
    have q1 : Qp (tmR f a m) 20 a.length m := (tm_qp (f := f) (m := m) G.ne).mono (by omega)
    have q2 : Qp (tmR g b k) 20 b.length k := (tm_qp (f := g) (m := k) G'.ne).mono (by omega)
    have e : tmR f a m = tmR g b k := funext fun n => same_for_ever q1 q2 G.ne G'.ne (W := 60) (by omega) (fun n hn => by
      have := congrArg (fun l => l[n]?) h
      rw [List.getElem?_map, List.getElem?_map, List.getElem?_range hn] at this
      exact Option.some.inj this) n
    have c1 := M.cn
    rw [e] at c1
    obtain ⟨rfl, rfl, e2⟩ := c1.uniq M'.cn (fun N => ⟨g.length + N, by omega, by
      obtain ⟨x, hx⟩ := G'.live (g.length + N) (by omega)
      rw [hx]
      exact fun z => nomatch z⟩)
    rw [M.ef, M.ea, M'.ef, M'.ea, e]
    exact ⟨rfl, rfl, e2⟩
end My

namespace My
open PySem PySem.Spec PyProof.Rows L2
local macro_rules | `(tactic| walk_at "side") => `(tactic| first | (dsimp only; omega) | exact ⟨by omega, by omega⟩ | exact Or.inl ⟨by omega, by omega⟩ | exact Or.inr ⟨by omega, by omega⟩ | decide)
local macro_rules | `(tactic| walk_at "sq") => `(tactic| first | assumption | exact SqL.of (by assumption) | exact SqT.of (by assumption) | (refine L2.Same.seq (by assumption) ?_; walk_at "sq") | (refine L2.Same.seqT (by assumption) ?_; walk_at "sq") | exact Or.inl (by walk_at "sq") | exact Or.inr (by walk_at "sq"))
local macro_rules | `(tactic| walk_at "1") => `(tactic| first
  | refine ⟨_, rfl, iteT ?_⟩
  | refine ⟨_, rfl, iteF ?_⟩
  | refine ⟨_, rfl, ?_⟩
  | refine ⟨_, _, rfl, rfl, (by walk_at "side"), ?_⟩
  | refine ⟨_, _, rfl, rfl, ?_⟩
  | refine ⟨_, _, _, _, true, rfl, .ty _, .base (.int _), kit_ty (a := "int") (by decide +kernel), ?_⟩
  | refine ⟨_, _, _, _, false, rfl, .ty _, .base (.int _), kit_ty (a := "int") (by decide +kernel), ?_⟩
  | refine ⟨_, _, rfl, (by walk_at "sq"), ?_⟩
  | refine ⟨_, _, _, _, rfl, rfl, (by walk_at "sq"), (by first | rfl | assumption), ?_⟩
  | refine Or.inl ⟨_, _, _, _, rfl, rfl, (by walk_at "sq"), (by first | rfl | assumption), ?_⟩
  | refine Or.inr (Or.inl ⟨_, _, _, _, rfl, rfl, (by walk_at "sq"), (by first | rfl | assumption), ?_⟩)
  | refine ⟨_, _, rfl, Or.inl ⟨(by walk_at "sq"), ?_⟩⟩
  | refine ⟨rfl, ?_⟩
  | refine iteT ?_
  | refine iteF ?_
  | refine ⟨_, _, _, _, _, rfl, (by assumption), (by assumption), (by assumption), (by assumption), ?_⟩
  | refine Or.inl ⟨_, rfl, ?_⟩
  | refine Or.inr ⟨_, rfl, ?_⟩
  | refine ⟨_, _, rfl, (by walk_at "side"), ?_⟩
  | refine ⟨_, _, rfl, ?_⟩)
local macro_rules | `(tactic| walk_at "fld") => `(tactic| skip)
local macro_rules | `(tactic| walk_at "s") => `(tactic| repeat walk_at "1")
local macro_rules | `(tactic| walk_at "size") => `(tactic| first | exact Nat.le_of_ble_eq_true rfl | (simp only [List.length_map, List.length_append, List.length_cons, List.length_nil]; omega))
local macro_rules | `(tactic| walk_at "new") => `(tactic| (first | refine ⟨(by walk_at "size"), fun p hp => ?_⟩ | refine fun p hp => ?_); (generalize hq : upd _ p _ = H1); (obtain ⟨s, e⟩ := new_facts hp hq); clear hq)
local macro_rules | `(tactic| walk_at "at") => `(tactic| first | assumption | (refine My.Same.at (by assumption) ?_; walk_at "at") | (refine My.Bx.at (by assumption) (by assumption) ?_; walk_at "at"))

section
variable {P : Program} {w : World} {K : PySem.W.Frag} {mg : Str → Option Value} {base : Heap} {C : Addr} {fa : Addr} {cdv : Value} {A : Around} {outer : List Env} {s : Shared} {H : Hp} {E : XK}
def tS0 : TS := fun D σ H1 => ∃ (b : Addr) (j : Nat) (y0 y1 y3 y5 y6 y7 y8 y9 y10 y11 y12 y13 : Option V), σ = [y0, y1, some (.ref b), y3, some (.int (j : Nat)), y5, y6, y7, y8, y9, y10, y11, y12, y13] ∧ BoxAt H1 b ∧
  ∀ (H' : Hp) (p : Addr) (f a : List (Option Int)) (m : Int), Bx b H1 H' → BoxAt H' b → ToldB b H' p f a m → ShapeG f a m → D.nx [y0, y1, some (.ref b), y3, some (.int (j : Nat)), some (.ref p), y6, y7, y8, y9, y10, y11, y12, y13] H'
theorem blk_s0 (o_law_row : Own P w K mg base "_law_row" 3 ["box", "is_low"] spRow) (o_law_great : Own P w K mg base "_law_great" 3 ["box"] spGreat) (hr : Room 9 (A.deeper (envOfC "law" (defScope s_law) s.heap.objs.size fa cdv))) :
    PS (cxOf CX0 P w K mg base ["script", "k", "box", "before", "turn", "told", "wide", "first", "again", "made", "same", "nothing", "bare", "n"] "law" (defScope s_law) fa cdv A outer s H E).nox (nth turnBody 0) tS0 := by
  refine ps_pre (ps_set (i := 5) sc_law.nd rfl (Or.inl rfl) (pe_ifExp (pt_cmpR op_lt (pv 4) pe_int (nomark _)) (pe_own o_law_row (hr.mono (by decide)) (pa_cons (pv 2) (pa_cons (pe_cmpR op_eq (pe_op op_mod (pv 4) pe_int) pe_int (nomark _)) pa_nil))) (pe_own o_law_great (hr.mono (by decide)) (pa_cons (pv 2) pa_nil)))) ?_
  rintro D σ H1 ⟨b, j, y0, y1, y3, y5, y6, y7, y8, y9, y10, y11, y12, y13, rfl, hb, k⟩
  walk_at "s"
  refine ite2 (fun c => ?_) (fun c => ?_)
  · walk_at "s"
    refine fun H' p f a m B' b' n T S => ?_
    exact k H' p f a m B' b' T S.g
  · walk_at "s"
    exact ⟨hb, fun H' p f a m B' b' n T S => k H' p f a m B' b' T S⟩
def tS1 : TS := fun D σ H1 => ∃ (b : Addr) (j : Nat) (p : Addr) (f a : List (Option Int)) (m : Int) (y0 y1 y3 y6 y7 y8 y9 y10 y11 y12 y13 : Option V), σ = [y0, y1, some (.ref b), y3, some (.int (j : Nat)), some (.ref p), y6, y7, y8, y9, y10, y11, y12, y13] ∧ BoxAt H1 b ∧ ToldB b H1 p f a m ∧ ShapeG f a m ∧
  ∀ (H' : Hp) (pw : Addr) (wf wa : List (Option Int)) (mw : Int), Bx b H1 H' → BoxAt H' b → ToldB b H' pw wf wa mw → Same2 f a m wf wa mw → D.nx [y0, y1, some (.ref b), y3, some (.int (j : Nat)), some (.ref p), some (.ref pw), y7, y8, y9, y10, y11, y12, y13] H'
theorem blk_s1 (T : Txt mg) (o_law_wide : Own P w K mg base "_law_wide" 3 ["box", "told"] spWide) (hr : Room 9 (A.deeper (envOfC "law" (defScope s_law) s.heap.objs.size fa cdv))) :
    PS (cxOf CX0 P w K mg base ["script", "k", "box", "before", "turn", "told", "wide", "first", "again", "made", "same", "nothing", "bare", "n"] "law" (defScope s_law) fa cdv A outer s H E).nox (nth turnBody 1) tS1 := by
  refine ps_pre (ps_set (i := 6) sc_law.nd rfl (Or.inl rfl) (pe_ifExp (pt_cmpR op_lt (pv 4) pe_int (nomark _)) (pe_own o_law_wide (hr.mono (by decide)) (pa_cons (pv 2) (pa_cons (pv 5) pa_nil))) (pe_tup (pa_cons (pe_callTy call_list_of (by rfl) T.list (by decide +kernel) (pa_cons (pe_ix ix_tup (pv 5) pe_int (fun _ _ => rfl)) pa_nil)) (pa_cons (pe_callTy call_list_of (by rfl) T.list (by decide +kernel) (pa_cons (pe_ix ix_tup (pv 5) pe_int (fun _ _ => rfl)) pa_nil)) (pa_cons (pe_ix ix_tup (pv 5) pe_int (fun _ _ => rfl)) pa_nil)))))) ?_
  rintro D σ H1 ⟨b, j, p, f, a, m, y0, y1, y3, y6, y7, y8, y9, y10, y11, y12, y13, rfl, hb, hT, G, k⟩
  walk_at "s"
  refine ite2 (fun c => ?_) (fun c => ?_)
  · walk_at "s"
    refine ⟨b, p, f, a, m, rfl, hb, hT, G, fun H' q B c' B' b' n h1 h2 h3 h4 T' => ?_⟩
    exact k H' q _ _ _ B' b' T' (Same2.wide G h1 h2 h3 h4)
  · obtain ⟨pf, pa, n1, n2, n3, h1, h2, h3⟩ := hT
    walk_at "s"
    walk_at "new"
    rename_i pX nX H2 s2 e2
    have h1' := s2 _ _ h1
    have h3' := s2 _ _ h3
    have nXb : pX ≠ b := hb.ne nX
    walk_at "s"
    walk_at "new"
    rename_i pY nY H3 s3 e3
    have h1'' := s3 _ _ h1'
    have nYb : pY ≠ b := (hb.same s2).ne nY
    have e2' := s3 _ _ e2
    walk_at "s"
    walk_at "new"
    rename_i pT nT H4 s4 e4
    have nTb : pT ≠ b := ((hb.same s2).same s3).ne nT
    exact k H4 pT f a m (Bx.of (s2.trans (s3.trans s4))) (((hb.same s2).same s3).same s4) ⟨pX, pY, nTb, nXb, nYb, e4, s4 _ _ e2', s4 _ _ e3⟩ (Same2.refl G)
end
end My

namespace My
open PySem PySem.Spec PyProof.Rows L2
local macro_rules | `(tactic| walk_at "side") => `(tactic| first | (dsimp only; omega) | exact ⟨by omega, by omega⟩ | exact Or.inl ⟨by omega, by omega⟩ | exact Or.inr ⟨by omega, by omega⟩ | decide)
local macro_rules | `(tactic| walk_at "sq") => `(tactic| first | assumption | exact SqL.of (by assumption) | exact SqT.of (by assumption) | (refine L2.Same.seq (by assumption) ?_; walk_at "sq") | (refine L2.Same.seqT (by assumption) ?_; walk_at "sq") | exact Or.inl (by walk_at "sq") | exact Or.inr (by walk_at "sq"))
local macro_rules | `(tactic| walk_at "1") => `(tactic| first
  | refine ⟨_, rfl, iteT ?_⟩
  | refine ⟨_, rfl, iteF ?_⟩
  | refine ⟨_, rfl, ?_⟩
  | refine ⟨_, _, rfl, rfl, (by walk_at "side"), ?_⟩
  | refine ⟨_, _, rfl, rfl, ?_⟩
  | refine ⟨_, _, _, _, true, rfl, .ty _, .base (.int _), kit_ty (a := "int") (by decide +kernel), ?_⟩
  | refine ⟨_, _, _, _, false, rfl, .ty _, .base (.int _), kit_ty (a := "int") (by decide +kernel), ?_⟩
  | refine ⟨_, _, rfl, (by walk_at "sq"), ?_⟩
  | refine ⟨_, _, _, _, rfl, rfl, (by walk_at "sq"), (by first | rfl | assumption), ?_⟩
  | refine Or.inl ⟨_, _, _, _, rfl, rfl, (by walk_at "sq"), (by first | rfl | assumption), ?_⟩
  | refine Or.inr (Or.inl ⟨_, _, _, _, rfl, rfl, (by walk_at "sq"), (by first | rfl | assumption), ?_⟩)
  | refine ⟨_, _, rfl, Or.inl ⟨(by walk_at "sq"), ?_⟩⟩
  | refine ⟨rfl, ?_⟩
  | refine iteT ?_
  | refine iteF ?_
  | refine ⟨_, _, _, _, _, rfl, (by assumption), (by assumption), (by assumption), (by assumption), ?_⟩
  | refine Or.inl ⟨_, rfl, ?_⟩
  | refine Or.inr ⟨_, rfl, ?_⟩
  | refine ⟨_, _, rfl, (by walk_at "side"), ?_⟩
  | refine ⟨_, _, rfl, ?_⟩)
local macro_rules | `(tactic| walk_at "fld") => `(tactic| skip)
local macro_rules | `(tactic| walk_at "s") => `(tactic| repeat walk_at "1")
local macro_rules | `(tactic| walk_at "size") => `(tactic| first | exact Nat.le_of_ble_eq_true rfl | (simp only [List.length_map, List.length_append, List.length_cons, List.length_nil]; omega))
local macro_rules | `(tactic| walk_at "new") => `(tactic| (first | refine ⟨(by walk_at "size"), fun p hp => ?_⟩ | refine fun p hp => ?_); (generalize hq : upd _ p _ = H1); (obtain ⟨s, e⟩ := new_facts hp hq); clear hq)
local macro_rules | `(tactic| walk_at "at") => `(tactic| first | assumption | (refine My.Same.at (by assumption) ?_; walk_at "at") | (refine My.Bx.at (by assumption) (by assumption) ?_; walk_at "at"))

/-- the own == and str of the class of rows -/
structure EqC (P : Program) (w : World) (K : PySem.W.Frag) (mg : Str → Option Value) (base : Heap) (C : Addr) : Prop where
  ex : ∃ f fd, FnOk P w K mg base CX0 1 f fd ["self", "other"] (spEqRow K C) ∧ PySem.W.findIn K (.ref C) "__eq__" = some (some (.ref f)) ∧ PySem.W.isFn K (.ref f) = true ∧ Binds K fd ["self", "other"] []
structure StrC (P : Program) (w : World) (K : PySem.W.Frag) (mg : Str → Option Value) (base : Heap) (C : Addr) : Prop where
  ex : ∃ f fd, FnOk P w K mg base CX0 2 f fd ["self"] (spStr C) ∧ PySem.W.findIn K (.ref C) "__str__" = some (some (.ref f)) ∧ PySem.W.isFn K (.ref f) = true ∧ Binds K fd ["self"] []
section
variable {X : Cx} {C : Addr}
theorem EqC.own (O : EqC X.prog X.w X.K X.mg X.base C) (Z : RowEq X.K X.mg C) : EqOwn X CX0 1 C (spEqRow X.K C) E0 := by
  obtain ⟨f, fd, h⟩ := O.ex
  exact ⟨⟨f, fd, _, h⟩, Z.ne, Z.mro, pass0⟩
theorem StrC.own (O : StrC X.prog X.w X.K X.mg X.base C) : StrOwn X CX0 2 C (spStr C) E0 := by
  obtain ⟨f, fd, h⟩ := O.ex
  exact ⟨⟨f, fd, _, h⟩, pass0⟩
theorem op_eqC (O : EqC X.prog X.w X.K X.mg X.base C) (Z : RowEq X.K X.mg C) (hr : Room 1 X.A) : OpR X (compareOp .Eq) (rEqOwn X.K C (spEqRow X.K C) E0) := op_eqOwn (O.own Z) hr
theorem op_neC (O : EqC X.prog X.w X.K X.mg X.base C) (Z : RowEq X.K X.mg C) (hr : Room 2 X.A) : OpR X (compareOp .NotEq) (rNeOwn X.K C (spEqRow X.K C) E0) := op_neOwn (O.own Z) hr
theorem call_strC (O : StrC X.prog X.w X.K X.mg X.base C) (hr : Room 4 X.A) : CallR X (.type "str") (rStrOwn C (spStr C) E0) := call_strOwn O.own hr
end
section
variable {K : PySem.W.Frag} {mg : Str → Option Value} {H : Hp} {Q : VK} {C p q : Addr} {f a f2 a2 : List (Option Int)} {m m2 : Int} {E : XK}
/-- readings of == between rows -/
theorem rd_eqRow (Z : RowEq K mg C) (h1 : RowAt C H p f a m) (h2 : RowAt C H q f2 a2 m2) (k : Q (.bl (decide (f = f2 ∧ a = a2 ∧ m = m2))) H) : rEqOwn K C (spEqRow K C) E (.ref p) (.ref q) H Q := by
  obtain ⟨dx, pf, pa, e1, _⟩ := id h1
  obtain ⟨dy, _, _, e2, _⟩ := id h2
  exact ⟨p, dx, _, _, rfl, e1, Z.ins _ _ _ _ e2, Z.nself, p, f, a, m, _, rfl, h1, Or.inr ⟨q, f2, a2, m2, rfl, h2, k⟩⟩
theorem rd_neRow (Z : RowEq K mg C) (h1 : RowAt C H p f a m) (h2 : RowAt C H q f2 a2 m2) (k : Q (.bl (!decide (f = f2 ∧ a = a2 ∧ m = m2))) H) : rNeOwn K C (spEqRow K C) E (.ref p) (.ref q) H Q := by
  obtain ⟨dx, pf, pa, e1, _⟩ := id h1
  obtain ⟨dy, _, _, e2, _⟩ := id h2
  exact ⟨p, dx, _, _, rfl, e1, Z.ins _ _ _ _ e2, Z.nself, p, f, a, m, _, rfl, h1, Or.inr ⟨q, f2, a2, m2, rfl, h2, _, rfl, k⟩⟩
theorem rd_eqTup (Z : RowEq K mg C) (h1 : RowAt C H p f a m) {xs : List V} (h2 : H q = some (.tup xs)) (k : Q (.bl false) H) : rEqOwn K C (spEqRow K C) E (.ref p) (.ref q) H Q := by
  obtain ⟨dx, pf, pa, e1, _⟩ := id h1
  exact ⟨p, dx, _, _, rfl, e1, .base (.tup h2), Z.ntup, p, f, a, m, _, rfl, h1, Or.inl ⟨_, .base (.tup h2), Z.tup, k⟩⟩
theorem rd_eqStr (Z : RowEq K mg C) (h1 : RowAt C H p f a m) {y : Str} (k : Q (.bl false) H) : rEqOwn K C (spEqRow K C) E (.ref p) (.str y) H Q := by
  obtain ⟨dx, pf, pa, e1, _⟩ := id h1
  exact ⟨p, dx, _, _, rfl, e1, .base (.str y), Z.nstr, p, f, a, m, _, rfl, h1, Or.inl ⟨_, .base (.str y), Z.str, k⟩⟩
end
/-- a row's three parts as data -/
def rowD (f a : List (Option Int)) (m : Int) : PyData := .tuple [.tuple (f.map od), .tuple (a.map od), .int m]
theorem shaped_rowD (f a : List (Option Int)) (m : Int) : SeqAt.shaped (rowD f a m) = true := by
  show ((PyData.canLayAll0 (f.map od) && (PyData.canLayAll0 (a.map od) && true)) && decide (max (PyData.depthAll (f.map od) + 1) (max (PyData.depthAll (a.map od) + 1) 0) + 1 ≤ 64)) = true
  rw [canLay_od, canLay_od, depth_od, depth_od]
  rfl
theorem eqv_rowD (f a f2 a2 : List (Option Int)) (m m2 : Int) : PyData.eqv (rowD f a m) (rowD f2 a2 m2) = decide (f = f2 ∧ a = a2 ∧ m = m2) := by
  show (PyData.eqvAll (f.map od) (f2.map od) && (PyData.eqvAll (a.map od) (a2.map od) && ((m == m2) && true))) = _
  rw [eqvAll_od, eqvAll_od]
  rw [show (m == m2) = decide (m = m2) from rfl]
  simp
theorem dp_rowD {K : PySem.W.Frag} {H : Hp} {p pf pa : Addr} {f a : List (Option Int)} {m : Int} (h : H p = some (.tup [.ref pf, .ref pa, .int m])) (h1 : H pf = some (.tup (f.map ov))) (h2 : H pa = some (.tup (a.map ov))) : Dp K H (.ref p) (rowD f a m) :=
  .tup (SqT.of h) (.cons (.tup (SqT.of h1) (dpAll_ov f)) (.cons (.tup (SqT.of h2) (dpAll_ov a)) (.cons (.int m) .nil)))
theorem rd_neL {K : PySem.W.Frag} {H : Hp} {Q : VK} {p q : Addr} (xs ys : List (Option Int)) (h1 : SqL K H p (xs.map ov)) (h2 : SqL K H q (ys.map ov)) (k : Q (.bl (!decide (xs = ys))) H) : rNeD K (.ref p) (.ref q) H Q :=
  ⟨_, _, .lst h1 (dpAll_ov xs), .lst h2 (dpAll_ov ys), shaped_l xs, shaped_l ys, by
    rw [show PyData.eqv (.list (xs.map od)) (.list (ys.map od)) = PyData.eqvAll (xs.map od) (ys.map od) from rfl, eqvAll_od]
    exact k⟩
/-- what stands from the making of a row on -/
structure InB (C : Addr) (b pt pw q : Addr) (f a wf wa f1 a1 : List (Option Int)) (m mw m1 : Int) (t bb : Nat) (H : Hp) : Prop where
  box : BoxAt H b
  told : ToldB b H pt f a m
  g : ShapeG f a m
  wide : ToldB b H pw wf wa mw
  w2 : Same2 f a m wf wa mw
  made : RowAt C H q f1 a1 m1
  by_ : MadeBy f a m f1 a1 m1 t bb
theorem InB.same {C : Addr} {b pt pw q : Addr} {f a wf wa f1 a1 : List (Option Int)} {m mw m1 : Int} {t bb : Nat} {H H' : Hp} (I : InB C b pt pw q f a wf wa f1 a1 m mw m1 t bb H) (s : Same H H') : InB C b pt pw q f a wf wa f1 a1 m mw m1 t bb H' :=
  ⟨I.box.same s, I.told.bx (Bx.of s), I.g, I.wide.bx (Bx.of s), I.w2, s.row I.made, I.by_⟩
def tKeep (C : Addr) : TS := fun D σ H8 => ∃ (b pt pw q : Addr) (f a wf wa f1 a1 : List (Option Int)) (m mw m1 : Int) (t bb : Nat) (y0 y1 y3 y4 y7 y8 y10 y11 y12 y13 : Option V), σ = [y0, y1, some (.ref b), y3, y4, some (.ref pt), some (.ref pw), y7, y8, some (.ref q), y10, y11, y12, y13] ∧ InB C b pt pw q f a wf wa f1 a1 m mw m1 t bb H8 ∧ ∀ H', Same H8 H' → D.nx [y0, y1, some (.ref b), y3, y4, some (.ref pt), some (.ref pw), y7, y8, some (.ref q), y10, y11, y12, y13] H'
section
variable {P : Program} {w : World} {K : PySem.W.Frag} {mg : Str → Option Value} {base : Heap} {C : Addr} {fa : Addr} {cdv : Value} {A : Around} {outer : List Env} {s : Shared} {H : Hp} {E : XK}

set_option maxHeartbeats 8000000 in
theorem blk_s6 (T : Txt mg) (R : RowCls K mg C) (Z : RowEq K mg C) (oq : EqC P w K mg base C) (o_law_least : Own P w K mg base "_law_least" 3 ["told"] spLeast) (o_law_made : Own P w K mg base "_law_made" 6 ["told"] (spMade C)) (hr : Room 9 (A.deeper (envOfC "law" (defScope s_law) s.heap.objs.size fa cdv))) :
    PS (cxOf CX0 P w K mg base ["script", "k", "box", "before", "turn", "told", "wide", "first", "again", "made", "same", "nothing", "bare", "n"] "law" (defScope s_law) fa cdv A outer s H E).nox (nth turnBody 6) (tKeep C) := by
  refine ps_pre (ps_if (PW.pt (pw_or (pt_cmpR (op_neD hr.units) (pe_tup (pa_cons (pe_fld (pv 9) rfl) (pa_cons (pe_fld (pv 9) rfl) (pa_cons (pe_fld (pv 9) rfl) pa_nil)))) (pe_own o_law_least (hr.mono (by decide)) (pa_cons (pv 5) pa_nil)) (nomark _)) (pw_or1 (pt_cmpR (op_neC oq Z (hr.mono (by decide))) (pv 9) (pe_own o_law_made (hr.mono (by decide)) (pa_cons (pv 5) pa_nil)) (nomark _)))))
            (pss_one (ps_ret pe_bl))
            pss_nil) ?_
  rintro D σ H1 ⟨b, pt, pw, q, f, a, wf, wa, f1, a1, m, mw, m1, t, bb, y0, y1, y3, y4, y7, y8, y10, y11, y12, y13, rfl, I, k⟩
  obtain ⟨dx, qf, qa, g1, g2, g3⟩ := id I.made
  have cl := R.cl
  have nF := R.nF
  have nA := R.nA
  have nM := R.nM
  have hl := lk_again qf qa m1
  have hl2 := lk_more qf qa m1
  have hl3 := lk_first qf qa m1
  walk_at "s"
  walk_at "new"
  rename_i p2 n2 H2 s2 e2
  have I2 := I.same s2
  have g2' := s2 _ _ g2
  have g3' := s2 _ _ g3
  walk_at "s"
  refine ⟨pt, f, a, m, t, bb, m1, rfl, I2.told.told, I.g, I.by_.cn, I.by_.ta, I.by_.bf, fun H3 q3 qf3 qa3 s3 n3 e3 ef3 ea3 => ?_⟩
  rw [← I.by_.ef] at ef3
  rw [← I.by_.ea] at ea3
  refine ⟨_, _, dp_rowD (s3 _ _ e2) (s3 _ _ g2') (s3 _ _ g3'), dp_rowD e3 ef3 ea3, shaped_rowD .., shaped_rowD .., ?_⟩
  rw [eqv_rowD, decide_eq_true ⟨rfl, rfl, rfl⟩]
  have I3 := I2.same s3
  walk_at "s"
  refine ⟨pt, f, a, m, rfl, I3.told.told, I.g.ok, I.g.parts, fun H4 q4 f4 a4 m4 s4 n4 r4 mo4 => ?_⟩
  obtain ⟨t4, b4, mb4⟩ := made_by I.g (Same2.refl I.g) mo4
  have I4 := I3.same s4
  refine rd_neRow Z I4.made r4 ?_
  rw [decide_eq_true (I.by_.uniq I.g mb4)]
  walk_at "s"
  exact k _ (s2.trans (s3.trans s4))


set_option maxHeartbeats 8000000 in
theorem blk_s7 (T : Txt mg) (R : RowCls K mg C) (Z : RowEq K mg C) (oq : EqC P w K mg base C) (o_time : Mth P w K mg base C "time" 1 ["self", "n"] (spTime C)) (o_law_times : Own P w K mg base "_law_times" 2 ["told", "many"] spTimes) (hr : Room 9 (A.deeper (envOfC "law" (defScope s_law) s.heap.objs.size fa cdv))) :
    PS (cxOf CX0 P w K mg base ["script", "k", "box", "before", "turn", "told", "wide", "first", "again", "made", "same", "nothing", "bare", "n"] "law" (defScope s_law) fa cdv A outer s H E).nox (nth turnBody 7) (tKeep C) := by
  refine ps_pre (ps_if (pt_cmpR (op_neD hr.units) (pe_lc (own := [("n", 13)]) (g := gName 13) (tt := tYes) rfl sc_law.nd (pi_range1 (by rfl) T.range (pa_cons pe_int pa_nil)) (blkOk_by (own := [("n", 13)]) (N := ["script", "k", "box", "before", "turn", "told", "wide", "first", "again", "made", "same", "nothing", "bare", "n"]) (sc := defScope s_law) (by decide +kernel)) (fun _ _ _ _ _ => (pg_name (i := 13) sc_law.nd rfl (Or.inl rfl))) (fun _ _ _ _ _ => pts_nil) (fun _ _ _ _ _ => (pe_mth R.cl o_time (hr.mono (by decide)) (pv 9) (pa_cons (pv 13) pa_nil)))) (pe_own o_law_times (hr.mono (by decide)) (pa_cons (pv 5) (pa_cons pe_int pa_nil))) (nomark _))
            (pss_one (ps_ret pe_bl))
            pss_nil) ?_
  rintro D σ H1 ⟨b, pt, pw, q, f, a, wf, wa, f1, a1, m, mw, m1, t, bb, y0, y1, y3, y4, y7, y8, y10, y11, y12, y13, rfl, I, k⟩
  obtain ⟨dx, qf, qa, g1, g2, g3⟩ := id I.made
  have cl := R.cl
  have h1000 : 1000 < sizeLine := small1000 (Nat.le_refl _)
  refine ⟨30, rfl, by decide, by decide, fun L nL => lc_range (lo := 0) (n := 30) (fun i H' => Same H1 H' ∧ H' L = some (.lst (((List.range i).map (tmR f a m)).map ov))) ⟨same_upd nL, upd_same⟩ ?_ ?_⟩
  · rintro i H2 hi ⟨s2, e2⟩
    have g1' := s2 _ _ g1
    have r2 := s2.row I.made
    rw [Int.zero_add]
    have lk : (rowF qf qa m1).lookup ("time" : Str) = none := rfl
    walk_at "s"
    refine ⟨q, dx, _, rfl, g1', lk, ?_⟩
    walk_at "s"
    refine ⟨q, f1, a1, m1, i, rfl, r2, I.by_.parts I.g, fun H3 s3 => ?_⟩
    rw [I.by_.times i]
    refine ⟨_, s3 _ _ e2, by rw [List.length_map, List.length_map, List.length_range]; omega, (s2.trans s3).upd1 nL, ?_⟩
    rw [upd_same, List.range_succ, List.map_append, List.map_append]
    rfl
  · rintro H2 ⟨s2, e2⟩
    have I2 := I.same s2
    refine ⟨_, rfl, pt, f, a, m, 30, rfl, I2.told.told, I.g.parts, by decide, fun H3 q3 s3 n3 e3 => ?_⟩
    refine rd_neL _ _ (SqL.of (s3 _ _ e2)) (SqL.of e3) ?_
    rw [decide_eq_true rfl]
    walk_at "s"
    exact k _ (s2.trans s3)


set_option maxHeartbeats 8000000 in
theorem blk_s8 (T : Txt mg) (R : RowCls K mg C) (Z : RowEq K mg C) (oq : EqC P w K mg base C) (o_time : Mth P w K mg base C "time" 1 ["self", "n"] (spTime C)) (o_law_time : Own P w K mg base "_law_time" 1 ["told", "n"] spTold) (hr : Room 9 (A.deeper (envOfC "law" (defScope s_law) s.heap.objs.size fa cdv))) :
    PS (cxOf CX0 P w K mg base ["script", "k", "box", "before", "turn", "told", "wide", "first", "again", "made", "same", "nothing", "bare", "n"] "law" (defScope s_law) fa cdv A outer s H E).nox (nth turnBody 8) (tKeep C) := by
  refine ps_pre (ps_if (pt_cmpR op_ne (pe_mth R.cl o_time (hr.mono (by decide)) (pv 9) (pa_cons (pe_op op_pow pe_int pe_int) pa_nil)) (pe_own o_law_time (hr.mono (by decide)) (pa_cons (pv 5) (pa_cons (pe_op op_pow pe_int pe_int) pa_nil))) (nomark _))
            (pss_one (ps_ret pe_bl))
            pss_nil) ?_
  rintro D σ H1 ⟨b, pt, pw, q, f, a, wf, wa, f1, a1, m, mw, m1, t, bb, y0, y1, y3, y4, y7, y8, y10, y11, y12, y13, rfl, I, k⟩
  obtain ⟨dx, qf, qa, g1, g2, g3⟩ := id I.made
  have cl := R.cl
  have lk : (rowF qf qa m1).lookup ("time" : Str) = none := rfl
  walk_at "s"
  refine ⟨q, dx, _, rfl, g1, lk, ?_⟩
  walk_at "s"
  have e15 : (10 : Int) ^ (15 : Int).toNat = ((1000000000000000 : Nat) : Int) := by decide
  refine ⟨q, f1, a1, m1, 1000000000000000, by show [V.ref q, V.int ((10 : Int) ^ (15 : Int).toNat)] = _; rw [e15], I.made, I.by_.parts I.g, fun H3 s3 => ?_⟩
  rw [I.by_.times]
  have I3 := I.same s3
  walk_at "s"
  refine ⟨pt, f, a, m, 1000000000000000, by show [V.ref pt, V.int ((10 : Int) ^ (15 : Int).toNat)] = _; rw [e15], I3.told.told, I.g.parts, ?_⟩
  generalize tmR f a m 1000000000000000 = v
  refine ⟨by cases v <;> rfl, ?_⟩
  rw [decide_eq_true rfl]
  walk_at "s"
  exact k _ s3


set_option maxHeartbeats 8000000 in
theorem blk_s9 (T : Txt mg) (R : RowCls K mg C) (Z : RowEq K mg C) (oq : EqC P w K mg base C) (ot : StrC P w K mg base C) (mstr : mg "str" = none) (o_law_least : Own P w K mg base "_law_least" 3 ["told"] spLeast) (o_Row : Mks P w K mg base "Row" C 4 ["self", "first", "again", "more"] (spInit C)) (hr : Room 9 (A.deeper (envOfC "law" (defScope s_law) s.heap.objs.size fa cdv))) :
    PS (cxOf CX0 P w K mg base ["script", "k", "box", "before", "turn", "told", "wide", "first", "again", "made", "same", "nothing", "bare", "n"] "law" (defScope s_law) fa cdv A outer s H E).nox (nth turnBody 9) (tKeep C) := by
  refine ps_pre (ps_if (PW.pt (pw_or (pt_cmpR (op_eqC oq Z (hr.mono (by decide))) (pv 9) (pe_own o_law_least (hr.mono (by decide)) (pa_cons (pv 5) pa_nil)) (nomark _)) (pw_or (pt_cmpR (op_eqC oq Z (hr.mono (by decide))) (pv 9) (pe_callTy (call_strC ot (hr.mono (by decide))) (by rfl) mstr (by decide +kernel) (pa_cons (pv 9) pa_nil)) (nomark _)) (pw_or1 (pt_cmpR (op_neC oq Z (hr.mono (by decide))) (pv 9) (pe_mks o_Row (hr.mono (by decide)) (pa_cons (pe_callTy call_tuple_of (by rfl) T.tuple (by decide +kernel) (pa_cons (pe_ix ix_tup (pv 6) pe_int (fun _ _ => rfl)) pa_nil)) (pa_cons (pe_callTy call_tuple_of (by rfl) T.tuple (by decide +kernel) (pa_cons (pe_ix ix_tup (pv 6) pe_int (fun _ _ => rfl)) pa_nil)) (pa_cons (pe_ix ix_tup (pv 6) pe_int (fun _ _ => rfl)) pa_nil)))) (nomark _))))))
            (pss_one (ps_ret pe_bl))
            pss_nil) ?_
  rintro D σ H1 ⟨b, pt, pw, q, f, a, wf, wa, f1, a1, m, mw, m1, t, bb, y0, y1, y3, y4, y7, y8, y10, y11, y12, y13, rfl, I, k⟩
  obtain ⟨dx, qf, qa, g1, g2, g3⟩ := id I.made
  refine ⟨_, rfl, ?_⟩
  refine ⟨_, rfl, pt, f, a, m, t, bb, m1, rfl, I.told.told, I.g, I.by_.cn, I.by_.ta, I.by_.bf, fun H3 q3 qf3 qa3 s3 n3 e3 ef3 ea3 => ?_⟩
  have I3 := I.same s3
  refine rd_eqTup Z I3.made e3 ?_
  walk_at "s"
  refine ⟨q, dx, _, rfl, s3 _ _ g1, q, f1, a1, m1, rfl, I3.made, I.by_.small I.g, fun H4 s4 => ⟨_, rfl, ?_⟩⟩
  have I4 := I3.same s4
  refine rd_eqStr Z I4.made ?_
  walk_at "s"
  obtain ⟨wfp, wap, u1, u2, u3, w1, w2, w3⟩ := I4.wide
  walk_at "s"
  walk_at "new"
  rename_i pX nX H5 s5 e5
  have w1' := s5 _ _ w1
  have w3' := s5 _ _ w3
  walk_at "s"
  walk_at "new"
  rename_i pY nY H6 s6 e6
  have w1'' := s6 _ _ w1'
  walk_at "s"
  intro x dx' nx ndx nex
  have sx : Same H6 (upd (upd H6 dx' (.own x)) x (.ins C dx' [])) := fun b o e => by
    rw [upd_ne (ne_of_none e nx), upd_ne (ne_of_none e ndx)]
    exact e
  have pt' := I.w2.pt
  refine ⟨H6, x, dx', pX, pY, wf, wa, mw, rfl, nx, sx, upd_same, Or.inr (s6 _ _ e5), Or.inr e6, I.w2.ok, pt'.lf, pt'.la, pt'.m0, by have := pt'.m1; omega, fun H' f' a' m' s7 r7 mo => ⟨rfl, ?_⟩⟩
  obtain ⟨t4, b4, mb4⟩ := made_by I.g I.w2 mo
  have I7 := ((I4.same s5).same s6).same s7
  refine rd_neRow Z I7.made r7 ?_
  rw [decide_eq_true (I.by_.uniq I.g mb4)]
  walk_at "s"
  exact k _ (s3.trans (s4.trans (s5.trans (s6.trans s7))))

end
end My

namespace My
open PySem PySem.Spec PyProof.Rows L2
local macro_rules | `(tactic| walk_at "side") => `(tactic| first | (dsimp only; omega) | exact ⟨by omega, by omega⟩ | exact Or.inl ⟨by omega, by omega⟩ | exact Or.inr ⟨by omega, by omega⟩ | decide)
local macro_rules | `(tactic| walk_at "sq") => `(tactic| first | assumption | exact SqL.of (by assumption) | exact SqT.of (by assumption) | (refine L2.Same.seq (by assumption) ?_; walk_at "sq") | (refine L2.Same.seqT (by assumption) ?_; walk_at "sq") | exact Or.inl (by walk_at "sq") | exact Or.inr (by walk_at "sq"))
local macro_rules | `(tactic| walk_at "1") => `(tactic| first
  | refine ⟨_, rfl, iteT ?_⟩
  | refine ⟨_, rfl, iteF ?_⟩
  | refine ⟨_, rfl, ?_⟩
  | refine ⟨_, _, rfl, rfl, (by walk_at "side"), ?_⟩
  | refine ⟨_, _, rfl, rfl, ?_⟩
  | refine ⟨_, _, _, _, true, rfl, .ty _, .base (.int _), kit_ty (a := "int") (by decide +kernel), ?_⟩
  | refine ⟨_, _, _, _, false, rfl, .ty _, .base (.int _), kit_ty (a := "int") (by decide +kernel), ?_⟩
  | refine ⟨_, _, rfl, (by walk_at "sq"), ?_⟩
  | refine ⟨_, _, _, _, rfl, rfl, (by walk_at "sq"), (by first | rfl | assumption), ?_⟩
  | refine Or.inl ⟨_, _, _, _, rfl, rfl, (by walk_at "sq"), (by first | rfl | assumption), ?_⟩
  | refine Or.inr (Or.inl ⟨_, _, _, _, rfl, rfl, (by walk_at "sq"), (by first | rfl | assumption), ?_⟩)
  | refine ⟨_, _, rfl, Or.inl ⟨(by walk_at "sq"), ?_⟩⟩
  | refine ⟨rfl, ?_⟩
  | refine iteT ?_
  | refine iteF ?_
  | refine ⟨_, _, _, _, _, rfl, (by assumption), (by assumption), (by assumption), (by assumption), ?_⟩
  | refine Or.inl ⟨_, rfl, ?_⟩
  | refine Or.inr ⟨_, rfl, ?_⟩
  | refine ⟨_, _, rfl, (by walk_at "side"), ?_⟩
  | refine ⟨_, _, rfl, ?_⟩)
local macro_rules | `(tactic| walk_at "fld") => `(tactic| skip)
local macro_rules | `(tactic| walk_at "s") => `(tactic| repeat walk_at "1")
local macro_rules | `(tactic| walk_at "size") => `(tactic| first | exact Nat.le_of_ble_eq_true rfl | (simp only [List.length_map, List.length_append, List.length_cons, List.length_nil]; omega))
local macro_rules | `(tactic| walk_at "new") => `(tactic| (first | refine ⟨(by walk_at "size"), fun p hp => ?_⟩ | refine fun p hp => ?_); (generalize hq : upd _ p _ = H1); (obtain ⟨s, e⟩ := new_facts hp hq); clear hq)
local macro_rules | `(tactic| walk_at "at") => `(tactic| first | assumption | (refine My.Same.at (by assumption) ?_; walk_at "at") | (refine My.Bx.at (by assumption) (by assumption) ?_; walk_at "at"))

theorem RowAt.off {C p x : Addr} {H : Hp} {f a : List (Option Int)} {m : Int} {ys : List V} {o : HO} (h : RowAt C H p f a m) (hx : H x = some (.lst ys)) : RowAt C (upd H x o) p f a m := by
  obtain ⟨dx, pf, pa, h1, h2, h3⟩ := h
  have n1 : p ≠ x := fun q => by rw [q, hx] at h1; cases h1
  have n2 : pf ≠ x := fun q => by rw [q, hx] at h2; cases h2
  have n3 : pa ≠ x := fun q => by rw [q, hx] at h3; cases h3
  exact ⟨dx, pf, pa, by rw [upd_ne n1]; exact h1, by rw [upd_ne n2]; exact h2, by rw [upd_ne n3]; exact h3⟩
theorem BoxAt.off {b x : Addr} {H : Hp} {o : HO} (h : BoxAt H b) (n : b ≠ x) : BoxAt (upd H x o) b := by
  obtain ⟨u, y, z, x0, hb⟩ := h
  exact ⟨u, y, z, x0, by rw [upd_ne n]; exact hb⟩
/-- what stands in before -/
inductive BefAt (C b : Addr) (H : Hp) : V → Prop where
  | non : BefAt C b H .non
  | ref {p q0 p0 : Addr} {f a f1 a1 : List (Option Int)} {m m1 : Int} {t bb : Nat} (h : H p = some (.tup [.ref q0, .ref p0])) (n : p ≠ b) (r : RowAt C H q0 f1 a1 m1) (d : ToldB b H p0 f a m) (g : ShapeG f a m) (M : MadeBy f a m f1 a1 m1 t bb) : BefAt C b H (.ref p)
theorem BefAt.bx {C b : Addr} {H H' : Hp} {x : V} (h : BefAt C b H x) (hb : BoxAt H b) (s : Bx b H H') : BefAt C b H' x := by
  cases h with
  | non => exact .non
  | ref h n r d g M => exact .ref (s _ _ n h) n (r.bx hb s) (d.bx s) g M
theorem BefAt.same {C b : Addr} {H H' : Hp} {x : V} (h : BefAt C b H x) (hb : BoxAt H b) (s : Same H H') : BefAt C b H' x := h.bx hb (Bx.of s)
/-- whether the made row is the one ahead -/
def SameOk (C : Addr) (H : Hp) (x : V) (f1 a1 : List (Option Int)) (m1 : Int) (sm : Bool) : Prop := x = .non ∨ ∃ p q0 p0 g1 b1 k1, x = .ref p ∧ H p = some (.tup [.ref q0, .ref p0]) ∧ RowAt C H q0 g1 b1 k1 ∧ sm = decide (f1 = g1 ∧ a1 = b1 ∧ m1 = k1)
section
variable {P : Program} {w : World} {K : PySem.W.Frag} {mg : Str → Option Value} {base : Heap} {C : Addr} {fa : Addr} {cdv : Value} {A : Around} {outer : List Env} {s : Shared} {H : Hp} {E : XK}
def tS10 (C : Addr) : TS := fun D σ H8 => ∃ (b pt pw q : Addr) (f a wf wa f1 a1 : List (Option Int)) (m mw m1 : Int) (t bb : Nat) (x : V) (y0 y1 y4 y7 y8 y10 y11 y12 y13 : Option V), σ = [y0, y1, some (.ref b), some x, y4, some (.ref pt), some (.ref pw), y7, y8, some (.ref q), y10, y11, y12, y13] ∧ InB C b pt pw q f a wf wa f1 a1 m mw m1 t bb H8 ∧ BefAt C b H8 x ∧
  ∀ H' sm, Same H8 H' → SameOk C H' x f1 a1 m1 sm → D.nx [y0, y1, some (.ref b), some x, y4, some (.ref pt), some (.ref pw), y7, y8, some (.ref q), some (.bl sm), y11, y12, y13] H'
set_option maxHeartbeats 8000000 in
theorem blk_s10 (T : Txt mg) (o_law_times : Own P w K mg base "_law_times" 2 ["told", "many"] spTimes) (hr : Room 9 (A.deeper (envOfC "law" (defScope s_law) s.heap.objs.size fa cdv))) :
    PS (cxOf CX0 P w K mg base ["script", "k", "box", "before", "turn", "told", "wide", "first", "again", "made", "same", "nothing", "bare", "n"] "law" (defScope s_law) fa cdv A outer s H E).nox (nth turnBody 10) (tS10 C) := by
  refine ps_pre (ps_set (i := 10) sc_law.nd rfl (Or.inl rfl) (pe_and (pe_cmpR op_notN (pv 3) pe_non (nomark _)) (pe_one (pe_cmpR (op_eqD hr.units) (pe_own o_law_times (hr.mono (by decide)) (pa_cons (pv 5) (pa_cons pe_int pa_nil))) (pe_own o_law_times (hr.mono (by decide)) (pa_cons (pe_ix ix_tup (pv 3) pe_int (fun _ _ => rfl)) (pa_cons pe_int pa_nil))) (nomark _))))) ?_
  rintro D σ H1 ⟨b, pt, pw, q, f, a, wf, wa, f1, a1, m, mw, m1, t, bb, x, y0, y1, y4, y7, y8, y10, y11, y12, y13, rfl, I, B, k⟩
  cases B with
  | non =>
    walk_at "s"
    exact k _ false (Same.refl _) (Or.inl rfl)
  | @ref p q0 p0 g0 b0 g1 b1 k0 k1 t' bb' h n r d gg M =>
    refine ⟨_, rfl, ?_⟩
    refine ⟨rfl, ?_⟩
    walk_at "s"
    refine ⟨pt, f, a, m, 60, rfl, I.told.told, I.g.parts, by decide, fun H3 q3 s3 n3 e3 => ?_⟩
    have h3 := s3 _ _ h
    have d3 := d.bx (Bx.of s3)
    walk_at "s"
    refine ⟨p0, g0, b0, k0, 60, rfl, d3.told, gg.parts, by decide, fun H4 q4 s4 n4 e4 => ?_⟩
    refine rd_eqL _ _ (SqL.of (s4 _ _ e3)) (SqL.of e4) ?_
    rw [← made_eq I.g I.by_ gg M]
    exact k _ _ (s3.trans s4) (Or.inr ⟨p, q0, p0, g1, b1, k1, rfl, s4 _ _ h3, (s3.trans s4).row r, rfl⟩)
def tS11 (C : Addr) : TS := fun D σ H8 => ∃ (b pt pw q : Addr) (f a wf wa f1 a1 : List (Option Int)) (m mw m1 : Int) (t bb : Nat) (x : V) (sm : Bool) (y0 y1 y4 y7 y8 y11 y12 y13 : Option V), σ = [y0, y1, some (.ref b), some x, y4, some (.ref pt), some (.ref pw), y7, y8, some (.ref q), some (.bl sm), y11, y12, y13] ∧ InB C b pt pw q f a wf wa f1 a1 m mw m1 t bb H8 ∧ SameOk C H8 x f1 a1 m1 sm ∧
  D.nx [y0, y1, some (.ref b), some x, y4, some (.ref pt), some (.ref pw), y7, y8, some (.ref q), some (.bl sm), y11, y12, y13] H8
set_option maxHeartbeats 8000000 in
theorem blk_s11 (T : Txt mg) (Z : RowEq K mg C) (oq : EqC P w K mg base C) (hr : Room 9 (A.deeper (envOfC "law" (defScope s_law) s.heap.objs.size fa cdv))) :
    PS (cxOf CX0 P w K mg base ["script", "k", "box", "before", "turn", "told", "wide", "first", "again", "made", "same", "nothing", "bare", "n"] "law" (defScope s_law) fa cdv A outer s H E).nox (nth turnBody 11) (tS11 C) := by
  refine ps_pre (ps_if (PW.pt (pw_and (pt_cmpR op_notN (pv 3) pe_non (nomark _)) (pw_and1 (pt_cmpR op_ne (pe_cmpR (op_eqC oq Z (hr.mono (by decide))) (pv 9) (pe_ix ix_tup (pv 3) pe_int (fun _ _ => rfl)) (nomark _)) (pv 10) (nomark _)))))
            (pss_one (ps_ret pe_bl))
            pss_nil) ?_
  rintro D σ H1 ⟨b, pt, pw, q, f, a, wf, wa, f1, a1, m, mw, m1, t, bb, x, sm, y0, y1, y4, y7, y8, y11, y12, y13, rfl, I, B, k⟩
  rcases B with rfl | ⟨p, q0, p0, g1, b1, k1, rfl, h, r, rfl⟩
  · walk_at "s"
    exact k
  · refine ⟨_, rfl, ?_⟩
    refine ⟨rfl, ?_⟩
    walk_at "s"
    refine rd_eqRow Z I.made r ?_
    walk_at "s"
    refine ite2 (fun c => ?_) (fun _ => ?_)
    · exfalso
      simp at c
    · walk_at "s"
      exact k

end
section
variable {P : Program} {w : World} {K : PySem.W.Frag} {mg : Str → Option Value} {base : Heap} {C : Addr} {fa : Addr} {cdv : Value} {A : Around} {outer : List Env} {s : Shared} {H : Hp} {E : XK}
/-- a slot with that -/
def BefO (C b : Addr) (H : Hp) (y : Option V) : Prop := ∃ x, y = some x ∧ BefAt C b H x
theorem BefO.bx {C b : Addr} {H H' : Hp} {y : Option V} (h : BefO C b H y) (hb : BoxAt H b) (s : Bx b H H') : BefO C b H' y := by
  obtain ⟨x, e, B⟩ := h
  exact ⟨x, e, B.bx hb s⟩
def tTurn (C : Addr) : TS := fun D σ H1 => ∃ (b : Addr) (j : Nat) (y0 y1 y3 y5 y6 y7 y8 y9 y10 y11 y12 y13 : Option V), σ = [y0, y1, some (.ref b), y3, some (.int (j : Nat)), y5, y6, y7, y8, y9, y10, y11, y12, y13] ∧ BoxAt H1 b ∧ BefO C b H1 y3 ∧
  ∀ (w3 w5 w6 w7 w8 w9 w10 : Option V) (H' : Hp), Bx b H1 H' → BoxAt H' b → BefO C b H' w3 → D.nx [y0, y1, some (.ref b), w3, some (.int (j : Nat)), w5, w6, w7, w8, w9, w10, y11, y12, y13] H'
set_option maxHeartbeats 8000000 in
theorem blk_turn (T : Txt mg) (R : RowCls K mg C) (Z : RowEq K mg C) (oq : EqC P w K mg base C) (ot : StrC P w K mg base C) (mstr : mg "str" = none)
    (o_law_row : Own P w K mg base "_law_row" 3 ["box", "is_low"] spRow) (o_law_great : Own P w K mg base "_law_great" 3 ["box"] spGreat) (o_law_wide : Own P w K mg base "_law_wide" 3 ["box", "told"] spWide)
    (o_Row : Mks P w K mg base "Row" C 4 ["self", "first", "again", "more"] (spInit C)) (o_law_least : Own P w K mg base "_law_least" 3 ["told"] spLeast) (o_law_made : Own P w K mg base "_law_made" 6 ["told"] (spMade C))
    (o_time : Mth P w K mg base C "time" 1 ["self", "n"] (spTime C)) (o_law_times : Own P w K mg base "_law_times" 2 ["told", "many"] spTimes) (o_law_time : Own P w K mg base "_law_time" 1 ["told", "n"] spTold) (hr : Room 9 (A.deeper (envOfC "law" (defScope s_law) s.heap.objs.size fa cdv))) :
    PSs (cxOf CX0 P w K mg base ["script", "k", "box", "before", "turn", "told", "wide", "first", "again", "made", "same", "nothing", "bare", "n"] "law" (defScope s_law) fa cdv A outer s H E).nox turnBody (tTurn C) := by
  refine pss_pre (pss_cons (blk_s0 o_law_row o_law_great hr) (pss_cons (blk_s1 T o_law_wide hr)
          (pss_cons (ps_par (i := 7) (j := 8) (by rfl) sc_law.nd rfl rfl (by decide) rfl rfl (pa_cons (pe_callTy call_list_of (by rfl) T.list (by decide +kernel) (pa_cons (pe_ix ix_tup (pv 6) pe_int (fun _ _ => rfl)) pa_nil)) (pa_cons (pe_callTy call_list_of (by rfl) T.list (by decide +kernel) (pa_cons (pe_ix ix_tup (pv 6) pe_int (fun _ _ => rfl)) pa_nil)) pa_nil)) (by rfl))
          (pss_cons (ps_set (i := 9) sc_law.nd rfl (Or.inr rfl) (pe_mks o_Row (hr.mono (by decide)) (pa_cons (pv 7) (pa_cons (pv 8) (pa_cons (pe_ix ix_tup (pv 6) pe_int (fun _ _ => rfl)) pa_nil)))))
          (pss_cons (ps_expr (pe_bm PySem.F.plainAttrs_list PySem.F.slot_list_append PySem.F.type_list_append mt_append (pv 7) (pa_cons (pe_op op_pow pe_int pe_int) pa_nil)))
          (pss_cons (ps_expr (pe_bm PySem.F.plainAttrs_list PySem.F.slot_list_append PySem.F.type_list_append mt_append (pv 8) (pa_cons (pe_op op_pow pe_int pe_int) pa_nil)))
          (pss_cons (blk_s6 T R Z oq o_law_least o_law_made hr) (pss_cons (blk_s7 T R Z oq o_time o_law_times hr) (pss_cons (blk_s8 T R Z oq o_time o_law_time hr) (pss_cons (blk_s9 T R Z oq ot mstr o_law_least o_Row hr) (pss_cons (blk_s10 (C := C) T o_law_times hr) (pss_cons (blk_s11 T Z oq hr)
          (pss_one (ps_set (i := 3) sc_law.nd rfl (Or.inl rfl) (pe_tup (pa_cons (pv 9) (pa_cons (pv 5) pa_nil))))))))))))))))) ?_
  rintro D σ H1 ⟨b, j, y0, y1, y3, y5, y6, y7, y8, y9, y10, y11, y12, y13, rfl, hb, B, k⟩
  have h1000 : 1000 < sizeLine := small1000 (Nat.le_refl _)
  refine ⟨b, j, _, _, _, _, _, _, _, _, _, _, _, _, rfl, hb, fun H2 pt f a m s2 b2 T2 G => ?_⟩
  have B2 := B.bx hb s2
  refine ⟨b, j, pt, f, a, m, _, _, _, _, _, _, _, _, _, _, _, rfl, b2, T2, G, fun H3 pw wf wa mw s3 b3 W3 W => ?_⟩
  have T3 := T2.bx s3
  have B3 := B2.bx b2 s3
  obtain ⟨pf, pa, n1, n2, n3, w1, w2, w3⟩ := id W3
  have lwf := W.pt.lf
  have lwa := W.pt.la
  walk_at "s"
  walk_at "new"
  rename_i pF nF H4 s4 e4
  have w1' := s4 _ _ w1
  have w3' := s4 _ _ w3
  have b4 := b3.same s4
  have nFb : pF ≠ b := b3.ne nF
  walk_at "s"
  walk_at "new"
  rename_i pG nG H5 s5 e5
  have w1'' := s5 _ _ w1'
  have b5 := b4.same s5
  have nGb : pG ≠ b := b4.ne nG
  have e4' := s5 _ _ e4
  have nFG : pF ≠ pG := ne_of_none e4 nG
  walk_at "s"
  intro x9 dx nx ndx nex
  have sx : Same H5 (upd (upd H5 dx (.own x9)) x9 (.ins C dx [])) := fun b o e => by
    rw [upd_ne (ne_of_none e nx), upd_ne (ne_of_none e ndx)]
    exact e
  have pt' := W.pt
  refine ⟨H5, x9, dx, pF, pG, wf, wa, mw, rfl, nx, sx, upd_same, Or.inl e4', Or.inl e5, W.ok, pt'.lf, pt'.la, pt'.m0, by have := pt'.m1; omega, fun H6 f1 a1 m1 s6 r6 mo => ⟨rfl, ?_⟩⟩
  obtain ⟨t, bb, mb⟩ := made_by G W mo
  have e6f := s6 _ _ e4'
  have e6g := s6 _ _ e5
  have S36 : Same H3 H6 := s4.trans (s5.trans s6)
  have nFH : H3 pF = none := nF
  have nGH : H3 pG = none := s4.free nG
  walk_at "s"
  refine ⟨.inl ⟨rfl, _, SqL.of e6f⟩, _, _, rfl, rfl, (by walk_at "side"), pF, _, _, rfl, rfl, e6f, by rw [List.length_map]; omega, ?_⟩
  have r7 := r6.off (o := .lst (wf.map ov ++ [.int (10 ^ (6 : Int).toNat)])) e6f
  have b7 := (b5.same s6).off (o := .lst (wf.map ov ++ [.int (10 ^ (6 : Int).toNat)])) nFb.symm
  have S37 : Same H3 (upd H6 pF (.lst (wf.map ov ++ [.int (10 ^ (6 : Int).toNat)]))) := S36.upd1 nFH
  have e7g : (upd H6 pF (.lst (wf.map ov ++ [.int (10 ^ (6 : Int).toNat)]))) pG = some (.lst (wa.map ov)) := by
    rw [upd_ne nFG.symm]
    exact e6g
  show tSeq _ _ _ _ (upd H6 pF (.lst (wf.map ov ++ [.int (10 ^ (6 : Int).toNat)])))
  generalize (upd H6 pF (.lst (wf.map ov ++ [.int (10 ^ (6 : Int).toNat)]))) = H7 at r7 b7 S37 e7g ⊢
  refine ⟨_, rfl, .inl ⟨rfl, _, SqL.of e7g⟩, _, _, rfl, rfl, (by walk_at "side"), pG, _, _, rfl, rfl, e7g, by rw [List.length_map]; omega, ?_⟩
  have r8 := r7.off (o := .lst (wa.map ov ++ [.int (10 ^ (7 : Int).toNat)])) e7g
  have b8 := b7.off (o := .lst (wa.map ov ++ [.int (10 ^ (7 : Int).toNat)])) nGb.symm
  have S38 : Same H3 (upd H7 pG (.lst (wa.map ov ++ [.int (10 ^ (7 : Int).toNat)]))) := S37.upd1 nGH
  show tSeq _ _ _ _ (upd H7 pG (.lst (wa.map ov ++ [.int (10 ^ (7 : Int).toNat)])))
  generalize (upd H7 pG (.lst (wa.map ov ++ [.int (10 ^ (7 : Int).toNat)]))) = H8 at r8 b8 S38 ⊢
  have I8 : InB C b pt pw x9 f a wf wa f1 a1 m mw m1 t bb H8 := ⟨b8, T3.bx (Bx.of S38), G, W3.bx (Bx.of S38), W, r8, mb⟩
  have B8 := B3.bx b3 (Bx.of S38)
  refine ⟨b, pt, pw, x9, f, a, wf, wa, f1, a1, m, mw, m1, t, bb, _, _, _, _, _, _, _, _, _, _, rfl, I8, fun H9 s9 => ?_⟩
  have I9 := I8.same s9
  refine ⟨b, pt, pw, x9, f, a, wf, wa, f1, a1, m, mw, m1, t, bb, _, _, _, _, _, _, _, _, _, _, rfl, I9, fun H10 s10 => ?_⟩
  have I10 := I9.same s10
  refine ⟨b, pt, pw, x9, f, a, wf, wa, f1, a1, m, mw, m1, t, bb, _, _, _, _, _, _, _, _, _, _, rfl, I10, fun H11 s11 => ?_⟩
  have I11 := I10.same s11
  refine ⟨b, pt, pw, x9, f, a, wf, wa, f1, a1, m, mw, m1, t, bb, _, _, _, _, _, _, _, _, _, _, rfl, I11, fun H12 s12 => ?_⟩
  have I12 := I11.same s12
  have S812 : Same H8 H12 := s9.trans (s10.trans (s11.trans s12))
  obtain ⟨xb, rfl, B12⟩ := B8.bx b8 (Bx.of S812)
  refine ⟨b, pt, pw, x9, f, a, wf, wa, f1, a1, m, mw, m1, t, bb, xb, _, _, _, _, _, _, _, _, _, rfl, I12, B12, fun H13 sm s13 ok => ?_⟩
  have I13 := I12.same s13
  refine ⟨b, pt, pw, x9, f, a, wf, wa, f1, a1, m, mw, m1, t, bb, xb, sm, _, _, _, _, _, _, _, _, rfl, I13, ok, ?_⟩
  refine ⟨_, rfl, ?_⟩
  refine ⟨_, rfl, ?_⟩
  walk_at "new"
  rename_i p14 n14 H14 s14 e14
  have I14 := I13.same s14
  have n14b : p14 ≠ b := I13.box.ne n14
  have SB : Bx b H1 H14 := s2.trans (s3.trans (Bx.of (S38.trans (S812.trans (s13.trans s14)))))
  exact k _ _ _ _ _ _ _ H14 SB I14.box ⟨_, rfl, .ref e14 n14b I14.made I14.told G mb⟩
end
end My

namespace My
open PySem PySem.Spec PyProof.Rows L2
local macro_rules | `(tactic| walk_at "side") => `(tactic| first | (dsimp only; omega) | exact ⟨by omega, by omega⟩ | exact Or.inl ⟨by omega, by omega⟩ | exact Or.inr ⟨by omega, by omega⟩ | decide)
local macro_rules | `(tactic| walk_at "sq") => `(tactic| first | assumption | exact SqL.of (by assumption) | exact SqT.of (by assumption) | (refine L2.Same.seq (by assumption) ?_; walk_at "sq") | (refine L2.Same.seqT (by assumption) ?_; walk_at "sq") | exact Or.inl (by walk_at "sq") | exact Or.inr (by walk_at "sq"))
local macro_rules | `(tactic| walk_at "1") => `(tactic| first
  | refine ⟨_, rfl, iteT ?_⟩
  | refine ⟨_, rfl, iteF ?_⟩
  | refine ⟨_, rfl, ?_⟩
  | refine ⟨_, _, rfl, rfl, (by walk_at "side"), ?_⟩
  | refine ⟨_, _, rfl, rfl, ?_⟩
  | refine ⟨_, _, _, _, true, rfl, .ty _, .base (.int _), kit_ty (a := "int") (by decide +kernel), ?_⟩
  | refine ⟨_, _, _, _, false, rfl, .ty _, .base (.int _), kit_ty (a := "int") (by decide +kernel), ?_⟩
  | refine ⟨_, _, rfl, (by walk_at "sq"), ?_⟩
  | refine ⟨_, _, _, _, rfl, rfl, (by walk_at "sq"), (by first | rfl | assumption), ?_⟩
  | refine Or.inl ⟨_, _, _, _, rfl, rfl, (by walk_at "sq"), (by first | rfl | assumption), ?_⟩
  | refine Or.inr (Or.inl ⟨_, _, _, _, rfl, rfl, (by walk_at "sq"), (by first | rfl | assumption), ?_⟩)
  | refine ⟨_, _, rfl, Or.inl ⟨(by walk_at "sq"), ?_⟩⟩
  | refine ⟨rfl, ?_⟩
  | refine iteT ?_
  | refine iteF ?_
  | refine ⟨_, _, _, _, _, rfl, (by assumption), (by assumption), (by assumption), (by assumption), ?_⟩
  | refine Or.inl ⟨_, rfl, ?_⟩
  | refine Or.inr ⟨_, rfl, ?_⟩
  | refine ⟨_, _, rfl, (by walk_at "side"), ?_⟩
  | refine ⟨_, _, rfl, ?_⟩)
local macro_rules | `(tactic| walk_at "fld") => `(tactic| skip)
local macro_rules | `(tactic| walk_at "s") => `(tactic| repeat walk_at "1")
local macro_rules | `(tactic| walk_at "size") => `(tactic| first | exact Nat.le_of_ble_eq_true rfl | (simp only [List.length_map, List.length_append, List.length_cons, List.length_nil]; omega))
local macro_rules | `(tactic| walk_at "new") => `(tactic| (first | refine ⟨(by walk_at "size"), fun p hp => ?_⟩ | refine fun p hp => ?_); (generalize hq : upd _ p _ = H1); (obtain ⟨s, e⟩ := new_facts hp hq); clear hq)
local macro_rules | `(tactic| walk_at "at") => `(tactic| first | assumption | (refine My.Same.at (by assumption) ?_; walk_at "at") | (refine My.Bx.at (by assumption) (by assumption) ?_; walk_at "at"))

/-- the module's name x is a class whose __init__ has one default -/
structure MksD (P : Program) (w : World) (K : PySem.W.Frag) (mg : Str → Option Value) (base : Heap) (x : Str) (C : Addr) (k : Nat) (ps : List Str) (dv : V) (sp : Sp) : Prop where
  ex : ∃ f fd ds, FnOk P w K mg base CX0 k f fd ps sp ∧ mg x = some (.ref C) ∧ Mk K C f ∧ Binds K fd ps ds ∧ Vals [dv] ds
theorem pe_mksD {X : Cx} {x : Str} {p pos : Pos} {e : Expr} {es : List Expr} {t : TA} {k : Nat} {ps : List Str} {sp : Sp} {C : Addr} {dv : V} (O : MksD X.prog X.w X.K X.mg X.base x C k ps dv sp) (hr : Room (k + 1) X.A) (ha : PA X (e :: es) t) (hg : Gl X x := by exact rfl) (hdb : (x == ("__debug__" : Str)) = false := by decide)
    (he : starEach (e :: es) X.env = (false, eval e X.env) :: starEach es X.env := by rfl) (hpl : (backTo pos (starEach es X.env)).any (·.1) = false := by rfl) : PE X (.Call (.Name x p) (e :: es) [] pos) (tMake C sp [dv] E0 t) := by
  obtain ⟨f, fd, ds, G, hm, M, hb, hv⟩ := O.ex
  exact pe_make M G hr hg hm hb hv pass0 ha hdb he hpl
/-- a row of one thing again and again -/
theorem made_same {c : Option Int} {p q : Nat} {f' a' : List (Option Int)} {m' : Int} (hq : 0 < q) (hc : later1 0 c = c) (M : MadeOf (List.replicate p c) (List.replicate q c) 0 f' a' m') : f' = [] ∧ a' = [c] ∧ m' = 0 := by
  obtain ⟨t, b, F, S, rfl, rfl, rfl⟩ := M
  have h1 := F.fits.pos
  have fit : Fits (List.replicate q c) 0 1 := by
    refine ⟨by decide, Nat.one_dvd _, by simp, ?_⟩
    rw [Int.zero_mul, Int.zero_ediv, List.length_replicate, List.drop_replicate, List.take_replicate, List.map_replicate, hc, Nat.min_eq_left (by omega)]
  have ht : t = 1 := by
    have := F.least 1
    by_cases z : 1 < t
    · exact absurd fit (this z)
    · omega
  subst ht
  have hb : b = 0 := by
    rcases S.least with z | z
    · exact z
    · by_cases zb : b = 0
      · exact zb
      · exfalso
        apply z
        have hle := S.le
        rw [List.length_replicate] at hle
        rw [List.replicate_append_replicate, List.getElem?_replicate, List.getElem?_replicate, if_pos (by omega), if_pos (by omega), Int.zero_mul, Int.zero_ediv]
        show some c = some (later1 0 c)
        rw [hc]
  subst hb
  refine ⟨rfl, ?_, by rw [Int.zero_mul, Int.zero_ediv]⟩
  rw [List.replicate_append_replicate, List.drop_zero, List.take_replicate, Nat.min_eq_left (by omega)]
  rfl
section
variable {P : Program} {w : World} {K : PySem.W.Frag} {mg : Str → Option Value} {base : Heap} {C : Addr}
def spLaw (K : PySem.W.Frag) : Sp := fun vs H Q _ => ∃ (a : Addr) (ns : List Int), vs = [.ref a] ∧ SqL K H a (ns.map V.int) ∧ ns.length ≤ 63 ∧ ∀ H', Q (.bl true) H'
set_option maxHeartbeats 8000000 in
theorem ok_law {fa : Addr} {fd : FuncData} (F : Fun K "law" "law" s_law fa fd) (T : Txt mg) (R : RowCls K mg C) (Z : RowEq K mg C) (oq : EqC P w K mg base C) (ot : StrC P w K mg base C) (mstr : mg "str" = none) (o_law_box : Own P w K mg base "_law_box" 1 ["script", "k"] (spBox K))
    (o_law_row : Own P w K mg base "_law_row" 3 ["box", "is_low"] spRow) (o_law_great : Own P w K mg base "_law_great" 3 ["box"] spGreat) (o_law_wide : Own P w K mg base "_law_wide" 3 ["box", "told"] spWide)
    (o_Row : Mks P w K mg base "Row" C 4 ["self", "first", "again", "more"] (spInit C)) (o_RowD : MksD P w K mg base "Row" C 4 ["self", "first", "again", "more"] (.int 0) (spInit C)) (o_law_least : Own P w K mg base "_law_least" 3 ["told"] spLeast) (o_law_made : Own P w K mg base "_law_made" 6 ["told"] (spMade C))
    (o_time : Mth P w K mg base C "time" 1 ["self", "n"] (spTime C)) (o_law_times : Own P w K mg base "_law_times" 2 ["told", "many"] spTimes) (o_law_time : Own P w K mg base "_law_time" 1 ["told", "n"] spTold)
    (o_unit : Own P w K mg base "unit" 6 [] (spOne C (some 0))) (o_empty : Own P w K mg base "empty" 6 [] (spOne C none)) : FnOk P w K mg base CX0 10 fa fd ["script"] (spLaw K) := by
  refine F.ok sc_law (fun vs H Q E h => ?_) (fun cdv A outer s H vs Q E hr h => ?_)
  · obtain ⟨_, _, rfl, _⟩ := h
    rfl
  · obtain ⟨a, ns, rfl, hS, hlen, k⟩ := h
    have h1000 : 1000 < sizeLine := small1000 (Nat.le_refl _)
    refine ⟨_, (pss_cons (ps_for PassesOwn.never rfl (pi_range1 (by rfl) T.range (pa_cons (pe_callB (call_max2 rfl) (by rfl) T.max (by decide +kernel) (pa_cons pe_int (pa_cons (pe_callB (call_min2 rfl) (by rfl) T.min (by decide +kernel) (pa_cons pe_int (pa_cons (pe_callB call_len_seq (by rfl) T.len PySem.boot_len (pa_cons (pv 0) pa_nil)) pa_nil))) pa_nil))) pa_nil)) (pg_name (i := 1) sc_law.nd rfl (Or.inl rfl))
    (pss_cons (ps_par (i := 2) (j := 3) (by rfl) sc_law.nd rfl rfl (by decide) rfl rfl (pa_cons (pe_own o_law_box (hr.mono (by decide)) (pa_cons (pv 0) (pa_cons (pv 1) pa_nil))) (pa_cons pe_non pa_nil)) (by rfl))
      (pss_one (ps_for PassesOwn.never rfl (pi_range1 (by rfl) T.range (pa_cons pe_int pa_nil)) (pg_name (i := 4) sc_law.nd rfl (Or.inl rfl))
        (blk_turn T R Z oq ot mstr o_law_row o_law_great o_law_wide o_Row o_law_least o_law_made o_time o_law_times o_law_time hr)))))
  (pss_cons (ps_set (i := 11) sc_law.nd rfl (Or.inl rfl) (pe_mksD o_RowD (hr.mono (by decide)) (pa_cons (pe_lst (pa_cons pe_non (pa_cons pe_non pa_nil))) (pa_cons (pe_lst (pa_cons pe_non (pa_cons pe_non (pa_cons pe_non pa_nil)))) pa_nil))))
  (pss_cons (ps_set (i := 12) sc_law.nd rfl (Or.inl rfl) (pe_own0 o_empty (hr.mono (by decide))))
  (pss_cons (ps_if (PW.pt (pw_or (pt_cmpR (op_neC oq Z (hr.mono (by decide))) (pv 11) (pv 12) (nomark _)) (pw_or1 (pt_cmpR (op_neD hr.units) (pe_tup (pa_cons (pe_fld (pv 12) rfl) (pa_cons (pe_fld (pv 12) rfl) (pa_cons (pe_fld (pv 12) rfl) pa_nil)))) (pe_tup (pa_cons (pe_tup pa_nil) (pa_cons (pe_tup (pa_cons pe_non pa_nil)) (pa_cons pe_int pa_nil)))) (nomark _)))))
    (pss_one (ps_ret pe_bl))
    pss_nil)
  (pss_one (ps_ret (pe_and (pe_cmpR (op_eqC oq Z (hr.mono (by decide))) (pe_own0 o_unit (hr.mono (by decide))) (pe_mks o_Row (hr.mono (by decide)) (pa_cons (pe_lst (pa_cons pe_int (pa_cons pe_int pa_nil))) (pa_cons (pe_lst (pa_cons pe_int (pa_cons pe_int pa_nil))) (pa_cons pe_int pa_nil)))) (nomark _)) (pe_one (pe_cmpR (op_neC oq Z (hr.mono (by decide))) (pe_own0 o_unit (hr.mono (by decide))) (pv 12) (nomark _)))))))))), ?_⟩
    walk_at "s"
    have hN : 1 ≤ (if (if ((ns.map V.int).length : Int) < 4 then ((ns.map V.int).length : Int) else 4) > 1 then (if ((ns.map V.int).length : Int) < 4 then ((ns.map V.int).length : Int) else 4) else 1) ∧ (if (if ((ns.map V.int).length : Int) < 4 then ((ns.map V.int).length : Int) else 4) > 1 then (if ((ns.map V.int).length : Int) < 4 then ((ns.map V.int).length : Int) else 4) else 1) ≤ 4 := by
      split <;> split at * <;> omega
    generalize (if (if ((ns.map V.int).length : Int) < 4 then ((ns.map V.int).length : Int) else 4) > 1 then (if ((ns.map V.int).length : Int) < 4 then ((ns.map V.int).length : Int) else 4) else 1) = N at hN ⊢
    refine ⟨by omega, by omega, for_range (lo := 0) (n := N.toNat) (fun i σ H' => ∃ y1 y2 y3 y4 y5 y6 y7 y8 y9 y10 y11 y12 y13, σ = [some (.ref a), y1, y2, y3, y4, y5, y6, y7, y8, y9, y10, y11, y12, y13] ∧ Same H H')
      ⟨none, none, none, none, none, none, none, none, none, none, none, none, none, rfl, Same.refl _⟩ ?_ ?_⟩
    · rintro i σ H0 hi ⟨y1, y2, y3, y4, y5, y6, y7, y8, y9, y10, y11, y12, y13, rfl, S0⟩
      rw [Int.zero_add]
      walk_at "s"
      refine ⟨a, ns, i, rfl, S0.seq hS, hlen, fun H1 b s1 nb hb1 => ?_⟩
      refine ⟨_, _, rfl, ?_⟩
      refine ⟨6, rfl, by decide, by decide, for_range (lo := 0) (n := 6) (fun j σ H' => ∃ y3 y4 y5 y6 y7 y8 y9 y10 y11 y12 y13, σ = [some (.ref a), some (.int (i : Nat)), some (.ref b), y3, y4, y5, y6, y7, y8, y9, y10, y11, y12, y13] ∧ Same H0 H' ∧ BoxAt H' b ∧ BefO C b H' y3) ⟨_, _, _, _, _, _, _, _, _, _, _, rfl, s1, hb1, ⟨_, rfl, .non⟩⟩ ?_ ?_⟩
      · rintro j σ H2 hj ⟨y3, y4, y5, y6, y7, y8, y9, y10, y11, y12, y13, rfl, S2, hb2, B2⟩
        rw [Int.zero_add]
        refine ⟨b, j, _, _, _, _, _, _, _, _, _, _, _, _, rfl, hb2, B2, fun w3 w5 w6 w7 w8 w9 w10 H' B' hb' BB => ?_⟩
        exact ⟨_, _, _, _, _, _, _, _, _, _, _, rfl, B'.same S2 nb, hb', BB⟩
      · rintro σ H2 ⟨y3, y4, y5, y6, y7, y8, y9, y10, y11, y12, y13, rfl, S2, hb2, B2⟩
        exact ⟨_, _, _, _, _, _, _, _, _, _, _, _, _, rfl, S0.trans S2⟩
    · rintro σ H0 ⟨y1, y2, y3, y4, y5, y6, y7, y8, y9, y10, y11, y12, y13, rfl, S0⟩
      walk_at "new"
      rename_i p1 n1 H1 s1 e1
      walk_at "s"
      walk_at "new"
      rename_i p2 n2 H2 s2 e2
      have e1' := s2 _ _ e1
      walk_at "s"
      intro x dx nx ndx nex
      have sx : Same H2 (upd (upd H2 dx (.own x)) x (.ins C dx [])) := fun b o e => by
        rw [upd_ne (ne_of_none e nx), upd_ne (ne_of_none e ndx)]
        exact e
      refine ⟨H2, x, dx, p1, p2, List.replicate 2 none, List.replicate 3 none, 0, rfl, nx, sx, upd_same, Or.inl e1', Or.inl e2, ⟨rfl, rfl, fun z => (nomatch z), Or.inr ⟨rfl, rfl, Or.inr rfl, rfl⟩⟩, by decide, by decide, by decide, by decide, fun H3 f' a' m' s3 r3 mo => ⟨rfl, ?_⟩⟩
      obtain ⟨rfl, rfl, rfl⟩ := made_same (by decide) rfl mo
      walk_at "s"
      refine fun H4 q4 s4 n4 r4 => ?_
      have r3' := s4.row r3
      obtain ⟨d4, g4, h4, u1, u2, u3⟩ := id r4
      have cl := R.cl
      have nF := R.nF
      have nA := R.nA
      have nM := R.nM
      have hl := lk_again g4 h4 0
      have hl2 := lk_more g4 h4 0
      have hl3 := lk_first g4 h4 0
      walk_at "s"
      refine rd_neRow Z r3' r4 ?_
      rw [decide_eq_true ⟨rfl, rfl, rfl⟩]
      walk_at "s"
      walk_at "new"
      rename_i p5 n5 H5 s5 e5
      have u2' := s5 _ _ u2
      have u3' := s5 _ _ u3
      walk_at "new"
      rename_i p6 n6 H6 s6 e6
      walk_at "new"
      rename_i p7 n7 H7 s7 e7
      have e6' := s7 _ _ e6
      walk_at "new"
      rename_i p8 n8 H8 s8 e8
      refine ⟨_, _, dp_rowD (s8 _ _ (s7 _ _ (s6 _ _ e5))) (s8 _ _ (s7 _ _ (s6 _ _ u2'))) (s8 _ _ (s7 _ _ (s6 _ _ u3'))), dp_rowD (f := []) (a := [none]) e8 (s8 _ _ e6') (s8 _ _ e7), shaped_rowD .., shaped_rowD .., ?_⟩
      rw [eqv_rowD, decide_eq_true ⟨rfl, rfl, rfl⟩]
      have r8 := s8.row (s7.row (s6.row (s5.row r4)))
      walk_at "s"
      refine fun H9 q9 s9 n9 r9 => ?_
      have r8' := s9.row r8
      walk_at "new"
      rename_i pa na Ha sa ea
      walk_at "s"
      walk_at "new"
      rename_i pb nb Hb sb eb
      have ea' := sb _ _ ea
      walk_at "s"
      intro x2 dx2 nx2 ndx2 nex2
      have sx2 : Same Hb (upd (upd Hb dx2 (.own x2)) x2 (.ins C dx2 [])) := fun b o e => by
        rw [upd_ne (ne_of_none e nx2), upd_ne (ne_of_none e ndx2)]
        exact e
      refine ⟨Hb, x2, dx2, pa, pb, List.replicate 2 (some 0), List.replicate 2 (some 0), 0, rfl, nx2, sx2, upd_same, Or.inl ea', Or.inl eb, ⟨rfl, rfl, fun z => (nomatch z), Or.inl ⟨0, 0, rfl, rfl, fun e he => by cases he; decide, by decide, by decide⟩⟩, by decide, by decide, by decide, by decide, fun Hc f' a' m' sc rc mo => ⟨rfl, ?_⟩⟩
      obtain ⟨rfl, rfl, rfl⟩ := made_same (by decide) rfl mo
      have rq := sc.row (sb.row (sa.row r9))
      have rb := sc.row (sb.row (sa.row r8'))
      refine rd_eqRow Z rq rc ?_
      rw [decide_eq_true ⟨rfl, rfl, rfl⟩]
      walk_at "s"
      refine fun He qe se ne re => ?_
      have rb' := se.row rb
      walk_at "s"
      refine rd_neRow Z re rb' ?_
      rw [decide_eq_false (fun z => nomatch z.2.1)]
      exact k _
end
end My

set_option linter.all false
namespace My
open PySem PySem.Spec PyProof.Rows L2
section
variable {K : PySem.W.Frag} {h : Heap} {mg : Str → Option Value}
theorem df_mk {x : Str} {st : Stmt} {ps : List Str} {f : Addr} {oc : Value} {od an : Option Addr} {osl : Array (Option Value)} {kV doc pm cdv ct : Value} (X : K.In h) (G : h.Ns mainGlobals mg)
    (a : PySem.W.nsIn K mainGlobals x = some (some (.ref f)))
    (l : K.lookup f = some ⟨oc, od, .func (PySem.W.fnOf x x (defArgs st) (defBody st) (defScope st) .none kV doc pm an cdv ct), osl⟩) (c : PySem.W.codeIn K cdv x = true) (k : PySem.W.keepIn K (.ref f) = true)
    (hb : ∀ (kV doc pm : Value) (an : Option Addr) (cdv ct : Value) (us : List Value), us.length = ps.length → bindArgs (PySem.W.fnOf x x (defArgs st) (defBody st) (defScope st) .none kV doc pm an cdv ct) ⟨us, []⟩ = pure (ps.zip us)) : Df K mg x st ps :=
  ⟨f, _, fun_mk l c k, PySem.W.mg_of X G a, (fun_mk l c k).binds hb⟩
/-- a method of the class -/
structure DfM (K : PySem.W.Frag) (C : Addr) (x qual : Str) (st : Stmt) (ps : List Str) : Prop where
  ex : ∃ f fd, Fun K x qual st f fd ∧ Meth K C x f ∧ Binds K fd ps []
theorem dfm_mk {C : Addr} {x qual : Str} {st : Stmt} {ps : List Str} {f : Addr} {oc : Value} {od an : Option Addr} {osl : Array (Option Value)} {kV doc pm cdv ct : Value}
    (a : PySem.W.findIn K (.ref C) x = some (some (.ref f))) (i : PySem.W.isFn K (.ref f) = true)
    (l : K.lookup f = some ⟨oc, od, .func (PySem.W.fnOf x qual (defArgs st) (defBody st) (defScope st) .none kV doc pm an cdv ct), osl⟩) (c : PySem.W.codeIn K cdv qual = true) (k : PySem.W.keepIn K (.ref f) = true)
    (hb : ∀ (kV doc pm : Value) (an : Option Addr) (cdv ct : Value) (us : List Value), us.length = ps.length → bindArgs (PySem.W.fnOf x qual (defArgs st) (defBody st) (defScope st) .none kV doc pm an cdv ct) ⟨us, []⟩ = pure (ps.zip us)) : DfM K C x qual st ps :=
  ⟨f, _, fun_mk l c k, ⟨a, i, k⟩, (fun_mk l c k).binds hb⟩
/-- the class of rows with its __init__, which has one default -/
structure DfI (K : PySem.W.Frag) (mg : Str → Option Value) (C : Addr) : Prop where
  ex : ∃ f fd ds, FunD K "__init__" "Row.__init__" (defArgs s_Row_init) (defBody s_Row_init) (defScope s_Row_init) [.int 0] [] f fd ∧ Mk K C f ∧ mg "Row" = some (.ref C) ∧ Binds K fd ["self", "first", "again", "more"] [] ∧ Binds K fd ["self", "first", "again", "more"] ds ∧ Vals [.int 0] ds
theorem dfi_mk {C Td : Addr} {u : Value} {f : Addr} {oc : Value} {od an : Option Addr} {osl : Array (Option Value)} {kV doc pm cdv ct : Value} {o : Obj} {n : Nat} (X : K.In h) (G : h.Ns mainGlobals mg)
    (aC : PySem.W.nsIn K mainGlobals "Row" = some (some (.ref C))) (a : PySem.W.findIn K (.ref C) "__init__" = some (some (.ref f))) (i : PySem.W.isFn K (.ref f) = true) (mk : PySem.W.makesIn K C = true) (kc : PySem.W.keepIn K (.ref C) = true)
    (l : K.lookup f = some ⟨oc, od, .func (PySem.W.fnOf "__init__" "Row.__init__" (defArgs s_Row_init) (defBody s_Row_init) (defScope s_Row_init) (.ref Td) kV doc pm an cdv ct), osl⟩) (lT : K.lookup Td = some o) (oT : o.data = .seq [u].toArray n) (ru : RelV (.int 0) u)
    (c : PySem.W.codeIn K cdv "Row.__init__" = true) (k : PySem.W.keepIn K (.ref f) = true) : DfI K mg C := by
  have F : FunD K "__init__" "Row.__init__" (defArgs s_Row_init) (defBody s_Row_init) (defScope s_Row_init) [.int 0] [] f (PySem.W.fnOf "__init__" "Row.__init__" (defArgs s_Row_init) (defBody s_Row_init) (defScope s_Row_init) (.ref Td) kV doc pm an cdv ct) :=
    ⟨⟨oc, od, .ref Td, kV, doc, pm, an, cdv, ct, osl, rfl, l, c, Or.inr ⟨by simp, Td, o, [u], n, rfl, lT, oT, .cons ru .nil⟩, Or.inl rfl⟩, k⟩
  obtain ⟨ds, v, b⟩ := F.binds1 (ps := ["self", "first", "again", "more"]) 4 1 (by simp) (by simp) (fun _ _ _ _ _ _ _ us its hl h1 => match us, hl, its, h1 with | [_, _, _, _], _, [_], _ => ⟨_, rfl, rfl⟩)
  cases v
  obtain ⟨ds1, v1, b1⟩ := F.binds1 (ps := ["self", "first", "again", "more"]) 3 0 (by simp) (by simp) (fun _ _ _ _ _ _ _ us its hl h1 => match us, hl, its, h1 with | [_, _, _], _, [_], _ => ⟨_, rfl, rfl⟩)
  exact ⟨f, _, ds1, F, ⟨mk, a, i, kc⟩, PySem.W.mg_of X G aC, b, b1, v1⟩
end
theorem rc_mk {K : PySem.W.Frag} {mg : Str → Option Value} {C : Addr} (pg : PySem.W.plainGet K C Str.empty = true) (hd : PySem.W.hasDictIn K C = true) (po : PySem.W.plainOver K C = true) (sa : PySem.W.findIn K (.ref C) "__setattr__" = some (some (.builtin "object.__setattr__")))
    (nF : PySem.W.findIn K (.ref C) "first" = some none) (nA : PySem.W.findIn K (.ref C) "again" = some none) (nM : PySem.W.findIn K (.ref C) "more" = some none) : RowCls K mg C := ⟨⟨pg, hd, po, sa⟩, nF, nA, nM⟩

theorem sub_tyno {K : PySem.W.Frag} {C : Addr} {T : String} (e : fastBuiltinMro T = some [.type T, .type "object"]) : PySem.W.subIn K (.type T) (.ref C) = some false := by
  show (fastBuiltinMro T).map (·.contains (.ref C)) = some false
  rw [e]
  first
    | rfl
    | simp
theorem kit_tyno {K : PySem.W.Frag} {M : Addr} {T : String} (cM : PySem.W.isClsIn K M = true) (tM : PySem.W.typeIn K (.ref M) = some (.type "type")) (s : PySem.W.subIn K (.type T) (.ref M) = some false) : PySem.W.kitOne K (.type T) (.ref M) = some false := by
  have cM' : (PySem.W.clsIn K M).isSome = true := cM
  unfold PySem.W.kitOne
  rw [if_neg (fun q => by cases beq_iff_eq.mp q)]
  show (if ((PySem.W.clsIn K M).isSome && PySem.W.typeIn K (.ref M) == some (.type "type")) = true then PySem.W.subIn K (.type T) (.ref M) else none) = some false
  rw [if_pos (by rw [cM', tM]; rfl)]
  exact s
theorem kit_self {K : PySem.W.Frag} {M : Addr} : PySem.W.kitOne K (.ref M) (.ref M) = some true := by
  unfold PySem.W.kitOne
  rw [if_pos (by simp)]
theorem notFirst_ty {K : PySem.W.Frag} {C : Addr} {T : String} (e : fastBuiltinMro T = some [.type T, .type "object"]) : PySem.W.notFirst K C (.type T) = true := by
  unfold PySem.W.notFirst
  rw [sub_tyno e]
  simp
theorem re_mk {K : PySem.W.Frag} {mg : Str → Option Value} {C : Addr} (R : RowCls K mg C) (g : mg "Row" = some (.ref C)) (ha : PySem.W.findIn K (.ref C) "__class__" = some (some (.builtin "object.__class__"))) (hn : PySem.W.specialIn K (.builtin "object.__class__") "__get__" = some (some (.builtin "getset_descriptor.__get__")))
    (ht : PySem.W.takesIn K (.builtin "object.__class__") = some true) (hm : PySem.W.mroIn K C (.type "object") = some true) (ic : PySem.W.isClsIn K C = true) (tc : PySem.W.typeIn K (.ref C) = some (.type "type")) (ne : PySem.W.findIn K (.ref C) "__ne__" = some (some (.builtin "object.__ne__"))) : RowEq K mg C :=
  ⟨g, fun H a dx fs h => .base (.ins h R.cl ha hn ht hm), kit_self, kit_tyno ic tc (sub_tyno (by decide +kernel)), kit_tyno ic tc (sub_tyno (by decide +kernel)), by unfold PySem.W.notFirst; simp, notFirst_ty (by decide +kernel), notFirst_ty (by decide +kernel), ne, hm⟩
theorem all_ok {P : Program} {w : World} {K : PySem.W.Frag} {mg : Str → Option Value} {C fa : Addr} (disinteger : Df K mg "is_integer" s_is_integer ["value"]) (disnumber : Df K mg "is_number" s_is_number ["value"]) (dissequence : Df K mg "is_sequence" s_is_sequence ["value"]) (dI : DfI K mg C) (mCtime : DfM K C "time" "Row.time" s_Row_time ["self", "n"]) (mCeq : DfM K C "__eq__" "Row.__eq__" s_Row_eq ["self", "other"]) (mCstr : DfM K C "__str__" "Row.__str__" s_Row_str ["self"]) (drises : Df K mg "_rises" s_rises ["things"]) (dwrongargument : Df K mg "_wrong_argument" s_wrong_argument ["first", "again", "more"]) (dshortestturn : Df K mg "_shortest_turn" s_shortest_turn ["again", "more"]) (dalllater : Df K mg "all_later" s_all_later ["things", "lasts"]) (dshortestfirst : Df K mg "_shortest_first" s_shortest_first ["things", "begin", "turn", "grow"]) (dwordof : Df K mg "_word_of" s_word_of ["thing"]) (dunit : Df K mg "unit" s_unit []) (dempty : Df K mg "empty" s_empty []) (dlawbox : Df K mg "_law_box" s_law_box ["script", "k"]) (dlawtake : Df K mg "_law_take" s_law_take ["box", "many"]) (dlawpick : Df K mg "_law_pick" s_law_pick ["box", "some"]) (dlawrow : Df K mg "_law_row" s_law_row ["box", "is_low"]) (dlawtime : Df K mg "_law_time" s_law_time ["told", "n"]) (dlawtimes : Df K mg "_law_times" s_law_times ["told", "many"]) (dlawmade : Df K mg "_law_made" s_law_made ["told"]) (dlawwide : Df K mg "_law_wide" s_law_wide ["box", "told"]) (dlawleast : Df K mg "_law_least" s_law_least ["told"]) (dlawgreat : Df K mg "_law_great" s_law_great ["box"]) (tx : Txt mg) (mstr : mg "str" = none) (rc : RowCls K mg C) (gR : mg "Row" = some (.ref C)) (ha : PySem.W.findIn K (.ref C) "__class__" = some (some (.builtin "object.__class__"))) (hn : PySem.W.specialIn K (.builtin "object.__class__") "__get__" = some (some (.builtin "getset_descriptor.__get__"))) (ht : PySem.W.takesIn K (.builtin "object.__class__") = some true) (hm : PySem.W.mroIn K C (.type "object") = some true) (ic : PySem.W.isClsIn K C = true) (tc : PySem.W.typeIn K (.ref C) = some (.type "type")) (zne : PySem.W.findIn K (.ref C) "__ne__" = some (some (.builtin "object.__ne__"))) {fd : FuncData} (F : Fun K "law" "law" s_law fa fd) (base : Heap) : FnOk P w K mg base CX0 10 fa fd ["script"] (spLaw K) := by
  have T := tx
  have R := rc
  have Z : RowEq K mg C := re_mk rc gR ha hn ht hm ic tc zne
  have o1 : Own P w K mg base "is_integer" 1 ["value"] spIsInt := ok_is_integer disinteger T
  have o2 : Own P w K mg base "is_number" 2 ["value"] spIsNum := ok_is_number disnumber o1
  have o3 : Own P w K mg base "is_sequence" 1 ["value"] spIsSeq := ok_is_sequence dissequence T
  have o5 : Own P w K mg base "_rises" 2 ["things"] (spRises K) := ok_rises drises o1
  have o6 : Own P w K mg base "_wrong_argument" 3 ["first", "again", "more"] spWrong := ok_wrong dwrongargument T o2 o3 o5
  have o7 : Own P w K mg base "all_later" 1 ["things", "lasts"] (spAllLater K) := ok_all_later dalllater
  have o8 : Own P w K mg base "_shortest_turn" 2 ["again", "more"] spShortT := ok_shortest_turn dshortestturn T o7
  have o9 : Own P w K mg base "_shortest_first" 2 ["things", "begin", "turn", "grow"] spShortF := ok_shortest_first dshortestfirst o7
  obtain ⟨f1, fd1, ds, F1, M1, mC, b1, b2, v2⟩ := dI.ex
  have FI : FnOk P w K mg base CX0 4 f1 fd1 ["self", "first", "again", "more"] (spInit C) := ok_init F1 R T o6 o8 o9
  have oI : Mks P w K mg base "Row" C 4 ["self", "first", "again", "more"] (spInit C) := ⟨f1, fd1, FI, mC, M1, b1⟩
  have oD : MksD P w K mg base "Row" C 4 ["self", "first", "again", "more"] (.int 0) (spInit C) := ⟨f1, fd1, ds, FI, mC, M1, b2, v2⟩
  have oTm : Mth P w K mg base C "time" 1 ["self", "n"] (spTime C) := by
    obtain ⟨f, fd, F1, M, b⟩ := mCtime.ex
    exact ⟨f, fd, ok_time F1 R T, M, b⟩
  have oq : EqC P w K mg base C := by
    obtain ⟨f, fd, F1, ⟨a, i, k⟩, b⟩ := mCeq.ex
    exact ⟨f, fd, ok_eq F1 R T Z, a, i, b⟩
  have ow : Own P w K mg base "_word_of" 1 ["thing"] spWord := ok_word_of dwordof mstr
  have ot : StrC P w K mg base C := by
    obtain ⟨f, fd, F1, ⟨a, i, k⟩, b⟩ := mCstr.ex
    exact ⟨f, fd, ok_str F1 R mstr ow, a, i, b⟩
  have oT : Own P w K mg base "_law_take" 1 ["box", "many"] spTake := ok_take dlawtake T
  have oP : Own P w K mg base "_law_pick" 2 ["box", "some"] spPick := ok_pick dlawpick T oT
  have oLt : Own P w K mg base "_law_time" 1 ["told", "n"] spTold := ok_law_time dlawtime T
  have oLs : Own P w K mg base "_law_times" 2 ["told", "many"] spTimes := ok_law_times dlawtimes T oLt
  exact ok_law F T R Z oq ot mstr (ok_box dlawbox T) (ok_law_row dlawrow T oT oP) (ok_law_great dlawgreat T oT oP) (ok_law_wide dlawwide T oT oLs) oI oD (ok_law_least dlawleast T oLs) (ok_law_made dlawmade oI) oTm oLs oLt (ok_unit dunit oI) (ok_empty dempty oI)
theorem end_mk {P : Program} {w : World} {K : PySem.W.Frag} {h : Heap} {mg : Str → Option Value} {C fa f : Addr} (X : K.In h) (G : h.Ns mainGlobals mg) (hfa : mg "law" = some (.ref fa))
    {oc : Value} {od an : Option Addr} {osl : Array (Option Value)} {kV doc pm cdv ct : Value}
    (a : PySem.W.nsIn K mainGlobals "law" = some (some (.ref f))) (l : K.lookup f = some ⟨oc, od, .func (PySem.W.fnOf "law" "law" (defArgs s_law) (defBody s_law) (defScope s_law) .none kV doc pm an cdv ct), osl⟩) (c : PySem.W.codeIn K cdv "law" = true) (k : PySem.W.keepIn K (.ref f) = true)
    (disinteger : Df K mg "is_integer" s_is_integer ["value"]) (disnumber : Df K mg "is_number" s_is_number ["value"]) (dissequence : Df K mg "is_sequence" s_is_sequence ["value"]) (dI : DfI K mg C) (mCtime : DfM K C "time" "Row.time" s_Row_time ["self", "n"]) (mCeq : DfM K C "__eq__" "Row.__eq__" s_Row_eq ["self", "other"]) (mCstr : DfM K C "__str__" "Row.__str__" s_Row_str ["self"]) (drises : Df K mg "_rises" s_rises ["things"]) (dwrongargument : Df K mg "_wrong_argument" s_wrong_argument ["first", "again", "more"]) (dshortestturn : Df K mg "_shortest_turn" s_shortest_turn ["again", "more"]) (dalllater : Df K mg "all_later" s_all_later ["things", "lasts"]) (dshortestfirst : Df K mg "_shortest_first" s_shortest_first ["things", "begin", "turn", "grow"]) (dwordof : Df K mg "_word_of" s_word_of ["thing"]) (dunit : Df K mg "unit" s_unit []) (dempty : Df K mg "empty" s_empty []) (dlawbox : Df K mg "_law_box" s_law_box ["script", "k"]) (dlawtake : Df K mg "_law_take" s_law_take ["box", "many"]) (dlawpick : Df K mg "_law_pick" s_law_pick ["box", "some"]) (dlawrow : Df K mg "_law_row" s_law_row ["box", "is_low"]) (dlawtime : Df K mg "_law_time" s_law_time ["told", "n"]) (dlawtimes : Df K mg "_law_times" s_law_times ["told", "many"]) (dlawmade : Df K mg "_law_made" s_law_made ["told"]) (dlawwide : Df K mg "_law_wide" s_law_wide ["box", "told"]) (dlawleast : Df K mg "_law_least" s_law_least ["told"]) (dlawgreat : Df K mg "_law_great" s_law_great ["box"]) (tx : Txt mg) (mstr : mg "str" = none) (rc : RowCls K mg C) (gR : mg "Row" = some (.ref C)) (ha : PySem.W.findIn K (.ref C) "__class__" = some (some (.builtin "object.__class__"))) (hn : PySem.W.specialIn K (.builtin "object.__class__") "__get__" = some (some (.builtin "getset_descriptor.__get__"))) (ht : PySem.W.takesIn K (.builtin "object.__class__") = some true) (hm : PySem.W.mroIn K C (.type "object") = some true) (ic : PySem.W.isClsIn K C = true) (tc : PySem.W.typeIn K (.ref C) = some (.type "type")) (zne : PySem.W.findIn K (.ref C) "__ne__" = some (some (.builtin "object.__ne__"))) :
    ∃ fd : FuncData, (∀ (s : Shared) (v : Value), BindsTo s fd ⟨[v], []⟩ [("script", v)]) ∧ ∀ base : Heap, K.In base → base.Ns mainGlobals mg → FnOk P w K mg base CX0 10 fa fd ["script"] (spLaw K) := by
  have e := hfa.symm.trans (PySem.W.mg_of X G a)
  cases e
  exact ⟨_, fun s v => .of_eq rfl, fun base _ _ => all_ok disinteger disnumber dissequence dI mCtime mCeq mCstr drises dwrongargument dshortestturn dalllater dshortestfirst dwordof dunit dempty dlawbox dlawtake dlawpick dlawrow dlawtime dlawtimes dlawmade dlawwide dlawleast dlawgreat tx mstr rc gR ha hn ht hm ic tc zne (fun_mk (st := s_law) l c k) base⟩
end My

open PySem PySem.W PyProof.Rows in
set_option maxHeartbeats 0 in
theorem PySem.Challenge.cw_waitworks_k02_rows_made_holds : PySem.Challenge.rw_waitworks_k02_rows_made.Holds := by
  w_on; o_law; k_head; (case hw => w_witness2)
  k_fill
  refine L2.walk_of (l := PySem.Challenge.rw_waitworks_k02_rows_made) (n := 63) (k := 10) (x := "script") (CX := fun _ => L2.CX0) (sp := fun w => My.spLaw _) rfl (by decide) rfl ⟨rfl, by decide, by decide⟩ (fun w h Y => PySem.W.kIn_of Y) ?F (fun _ _ a ns hl _ hS => ⟨a, ns, rfl, hS, hl, fun _ => rfl⟩) (fun _ _ _ _ _ h => h)
  case F =>
    intro w mg fa h KX G hmg
    refine' My.end_mk KX G hmg ?aL ?lL ?cL ?kL ?disinteger ?disnumber ?dissequence ?dI ?mCtime ?mCeq ?mCstr ?drises ?dwrongargument ?dshortestturn ?dalllater ?dshortestfirst ?dwordof ?dunit ?dempty ?dlawbox ?dlawtake ?dlawpick ?dlawrow ?dlawtime ?dlawtimes ?dlawmade ?dlawwide ?dlawleast ?dlawgreat ?tx ?mstr ?rc ?gR ?ha ?hn ?ht ?hm ?ic ?tc ?zne
    (case aL => k_is)
    (case lL => k_is)
    (case cL => k_is)
    (case kL => k_is)
    (case disinteger => (refine' My.df_mk KX G ?a ?l ?c ?k (fun _ _ _ _ _ _ us hl => match us, hl with | [_], _ => rfl)); (case a => k_is); (case l => k_is); (case c => k_is); (case k => k_is))
    (case disnumber => (refine' My.df_mk KX G ?a ?l ?c ?k (fun _ _ _ _ _ _ us hl => match us, hl with | [_], _ => rfl)); (case a => k_is); (case l => k_is); (case c => k_is); (case k => k_is))
    (case dissequence => (refine' My.df_mk KX G ?a ?l ?c ?k (fun _ _ _ _ _ _ us hl => match us, hl with | [_], _ => rfl)); (case a => k_is); (case l => k_is); (case c => k_is); (case k => k_is))
    (case dI => (refine' My.dfi_mk KX G ?aC ?a ?i ?mk ?kc ?l ?lT ?oT ⟨_, rfl⟩ ?c ?k); (case aC => k_is); (case a => k_is); (case i => k_is); (case mk => k_is); (case kc => k_is); (case l => k_is); (case lT => k_is); (case oT => rfl); (case c => k_is); (case k => k_is))
    (case mCtime => (refine' My.dfm_mk ?a ?i ?l ?c ?k (fun _ _ _ _ _ _ us hl => match us, hl with | [_, _], _ => rfl)); (case a => k_is); (case i => k_is); (case l => k_is); (case c => k_is); (case k => k_is))
    (case mCeq => (refine' My.dfm_mk ?a ?i ?l ?c ?k (fun _ _ _ _ _ _ us hl => match us, hl with | [_, _], _ => rfl)); (case a => k_is); (case i => k_is); (case l => k_is); (case c => k_is); (case k => k_is))
    (case mCstr => (refine' My.dfm_mk ?a ?i ?l ?c ?k (fun _ _ _ _ _ _ us hl => match us, hl with | [_], _ => rfl)); (case a => k_is); (case i => k_is); (case l => k_is); (case c => k_is); (case k => k_is))
    (case drises => (refine' My.df_mk KX G ?a ?l ?c ?k (fun _ _ _ _ _ _ us hl => match us, hl with | [_], _ => rfl)); (case a => k_is); (case l => k_is); (case c => k_is); (case k => k_is))
    (case dwrongargument => (refine' My.df_mk KX G ?a ?l ?c ?k (fun _ _ _ _ _ _ us hl => match us, hl with | [_, _, _], _ => rfl)); (case a => k_is); (case l => k_is); (case c => k_is); (case k => k_is))
    (case dshortestturn => (refine' My.df_mk KX G ?a ?l ?c ?k (fun _ _ _ _ _ _ us hl => match us, hl with | [_, _], _ => rfl)); (case a => k_is); (case l => k_is); (case c => k_is); (case k => k_is))
    (case dalllater => (refine' My.df_mk KX G ?a ?l ?c ?k (fun _ _ _ _ _ _ us hl => match us, hl with | [_, _], _ => rfl)); (case a => k_is); (case l => k_is); (case c => k_is); (case k => k_is))
    (case dshortestfirst => (refine' My.df_mk KX G ?a ?l ?c ?k (fun _ _ _ _ _ _ us hl => match us, hl with | [_, _, _, _], _ => rfl)); (case a => k_is); (case l => k_is); (case c => k_is); (case k => k_is))
    (case dwordof => (refine' My.df_mk KX G ?a ?l ?c ?k (fun _ _ _ _ _ _ us hl => match us, hl with | [_], _ => rfl)); (case a => k_is); (case l => k_is); (case c => k_is); (case k => k_is))
    (case dunit => (refine' My.df_mk KX G ?a ?l ?c ?k (fun _ _ _ _ _ _ us hl => match us, hl with | [], _ => rfl)); (case a => k_is); (case l => k_is); (case c => k_is); (case k => k_is))
    (case dempty => (refine' My.df_mk KX G ?a ?l ?c ?k (fun _ _ _ _ _ _ us hl => match us, hl with | [], _ => rfl)); (case a => k_is); (case l => k_is); (case c => k_is); (case k => k_is))
    (case dlawbox => (refine' My.df_mk KX G ?a ?l ?c ?k (fun _ _ _ _ _ _ us hl => match us, hl with | [_, _], _ => rfl)); (case a => k_is); (case l => k_is); (case c => k_is); (case k => k_is))
    (case dlawtake => (refine' My.df_mk KX G ?a ?l ?c ?k (fun _ _ _ _ _ _ us hl => match us, hl with | [_, _], _ => rfl)); (case a => k_is); (case l => k_is); (case c => k_is); (case k => k_is))
    (case dlawpick => (refine' My.df_mk KX G ?a ?l ?c ?k (fun _ _ _ _ _ _ us hl => match us, hl with | [_, _], _ => rfl)); (case a => k_is); (case l => k_is); (case c => k_is); (case k => k_is))
    (case dlawrow => (refine' My.df_mk KX G ?a ?l ?c ?k (fun _ _ _ _ _ _ us hl => match us, hl with | [_, _], _ => rfl)); (case a => k_is); (case l => k_is); (case c => k_is); (case k => k_is))
    (case dlawtime => (refine' My.df_mk KX G ?a ?l ?c ?k (fun _ _ _ _ _ _ us hl => match us, hl with | [_, _], _ => rfl)); (case a => k_is); (case l => k_is); (case c => k_is); (case k => k_is))
    (case dlawtimes => (refine' My.df_mk KX G ?a ?l ?c ?k (fun _ _ _ _ _ _ us hl => match us, hl with | [_, _], _ => rfl)); (case a => k_is); (case l => k_is); (case c => k_is); (case k => k_is))
    (case dlawmade => (refine' My.df_mk KX G ?a ?l ?c ?k (fun _ _ _ _ _ _ us hl => match us, hl with | [_], _ => rfl)); (case a => k_is); (case l => k_is); (case c => k_is); (case k => k_is))
    (case dlawwide => (refine' My.df_mk KX G ?a ?l ?c ?k (fun _ _ _ _ _ _ us hl => match us, hl with | [_, _], _ => rfl)); (case a => k_is); (case l => k_is); (case c => k_is); (case k => k_is))
    (case dlawleast => (refine' My.df_mk KX G ?a ?l ?c ?k (fun _ _ _ _ _ _ us hl => match us, hl with | [_], _ => rfl)); (case a => k_is); (case l => k_is); (case c => k_is); (case k => k_is))
    (case dlawgreat => (refine' My.df_mk KX G ?a ?l ?c ?k (fun _ _ _ _ _ _ us hl => match us, hl with | [_], _ => rfl)); (case a => k_is); (case l => k_is); (case c => k_is); (case k => k_is))
    (case tx => refine' ⟨mg_none_of KX G ?_, mg_none_of KX G ?_, mg_none_of KX G ?_, mg_none_of KX G ?_, mg_none_of KX G ?_, mg_none_of KX G ?_, mg_none_of KX G ?_, mg_none_of KX G ?_, mg_none_of KX G ?_, mg_none_of KX G ?_, mg_none_of KX G ?_, mg_none_of KX G ?_⟩ <;> k_is)
    (case mstr => (refine' mg_none_of KX G ?_); k_is)
    (case rc => (refine' My.rc_mk ?pg ?hd ?po ?sa ?nF ?nA ?nM); (case pg => k_is); (case hd => k_is); (case po => k_is); (case sa => k_is); (case nF => k_is); (case nA => k_is); (case nM => k_is))
    (case gR => (refine' mg_of KX G ?_); k_is)
    (case ha => k_is)
    (case hn => k_is)
    (case ht => k_is)
    (case hm => first | rfl | k_is)
    (case ic => k_is)
    (case tc => k_is)
    (case zne => k_is)
