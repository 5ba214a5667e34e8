import PyProof.Rows.All
import Wide.All
import OpenK.AllK
import Wide.FinOn
import KE.KIsAll
import KE.KTryMore
import HandS.ForMost
import HandS.ForExc
import HandS.ExcIs
import HandS.IsInst
import HandS.Small
import HandS.Codes
import HandS.TupAny
import HandS.AnyAll
import HandS.HotCalls
import KE.LtData
import HandS.FStr
import HandS.EndTab
import KE.KDictDisplayH
import KE.DataMinMax
import HandS.More
import KE.KIndexOf
import HandS.Iter
import HandS.Zip
import HandS.Style
import HandS.EndOwn
import PySem.Challenge.RW_maieutic_k61_tree_machines_run
set_option Elab.async false
set_option linter.all false
set_option maxRecDepth 100000
set_option maxHeartbeats 4000000
namespace Mz
open PySem PySem.Spec PyProof.Rows L2
/-! ### calls whose errors are wished for at the slots as they stand -/
section
variable {X : Cx} {CX : CXT} {k : Nat} {f C : Addr} {fd : FuncData} {ps : List Str} {sp : Sp} {E : L2.St → XK} {x m : Str} {p pos apos : Pos} {e o : Expr} {es : List Expr} {ta : TE} {t : TA}
def tMethS (C : Addr) (m : Str) (sp : Sp) (E : L2.St → XK) (ta : TE) (t : TA) : TE := fun σ H Q => ta σ H fun x H1 => ∃ a dx fs, x = .ref a ∧ H1 a = some (.ins C dx fs) ∧ fs.lookup m = none ∧ t σ H1 fun vs H2 => sp (x :: vs) H2 Q (E σ)
theorem pe_methS {pl : Sem Bool} (he : PE X o ta) (c : Cls X.K C) (hm : Meth X.K C m f)
    (F : FnOk X.prog X.w X.K X.mg X.base CX k f fd ps sp) (hr : Room k X.A) (hb : Binds X.K fd ps []) (hx : ∀ σ, PassesAt CX X σ (E σ)) (ha : PA X (e :: es) t)
    (hst : starEach (e :: es) X.env = (false, eval e X.env) :: starEach es X.env := by rfl) (hpl : (backTo pos (starEach es X.env)).any (·.1) = false := by rfl)
    (ht : eval (.Call (.Attribute o m apos) (e :: es) [] pos) X.env = (do
      let ov ← eval o X.env
      standAt apos.atName
      let (f, first) ← holding [ov] (getMethod ov m pl)
      callWith pos f first (backTo pos (starEach (e :: es) X.env)) (backToKw pos (keywordEach [] X.env))) := by rfl) :
    PE X (.Call (.Attribute o m apos) (e :: es) [] pos) (tMethS C m sp E ta t) := by
  refine ⟨fun pins s σ H Q I h => ?_⟩
  refine PySem.W.methodCall_KW (pl := pl) (thn (he.run pins s σ H _ I h) fun u s1 ⟨x, H1, I1, rx, a, dx, fs, ex, ea, l, q⟩ => ?_) ht
  subst ex
  obtain rfl : u = Value.ref a := rx
  refine getmeth_ok I1 ea c hm l ?_
  refine PySem.W.callWith_K (first := [.ref a]) (h₀ := X.base) I.ok.mod.kin hm.kp (thn (ha.run pos pins s1 σ H1 _ I1 q) fun us s2 ⟨vs, H2, I2, r, q2⟩ => ⟨I2.kIn, ?_⟩) hst hpl
  exact run_fnS (us := .ref a :: us) (vs := .ref a :: vs) F hr hb (hx σ) I2 (.cons rfl r) q2
theorem pe_methS0 {pl : Sem Bool} (he : PE X o ta) (c : Cls X.K C) (hm : Meth X.K C m f)
    (F : FnOk X.prog X.w X.K X.mg X.base CX k f fd ps sp) (hr : Room k X.A) (hb : Binds X.K fd ps []) (hx : ∀ σ, PassesAt CX X σ (E σ))
    (ht : eval (.Call (.Attribute o m apos) [] [] pos) X.env = (do
      let ov ← eval o X.env
      standAt apos.atName
      let (f, first) ← holding [ov] (getMethod ov m pl)
      callWith pos f first (backTo pos (starEach [] X.env)) (backToKw pos (keywordEach [] X.env))) := by rfl) :
    PE X (.Call (.Attribute o m apos) [] [] pos) (tMethS C m sp E ta tNil) := by
  refine ⟨fun pins s σ H Q I h => ?_⟩
  refine PySem.W.methodCall_KW (pl := pl) (thn (he.run pins s σ H _ I h) fun u s1 ⟨x, H1, I1, rx, a, dx, fs, ex, ea, l, q⟩ => ?_) ht
  subst ex
  obtain rfl : u = Value.ref a := rx
  refine getmeth_ok I1 ea c hm l ?_
  exact PySem.W.callWith_K0 (first := [.ref a]) I1.kIn hm.kp
    (run_fnS (us := [.ref a]) (vs := [.ref a]) F hr hb (hx σ) I1 (.cons rfl .nil) q)
def tMakeS (C : Addr) (sp : Sp) (E : L2.St → XK) (t : TA) : TE := fun σ H Q =>
  t σ H fun vs H1 => ∀ x dx, H1 x = none → H1 dx = none → dx ≠ x → sp (.ref x :: vs) (upd (upd H1 dx (.own x)) x (.ins C dx [])) (fun v H2 => v = .non ∧ Q (.ref x) H2) (E σ)
theorem run_makeS {pins : List (Addr × Obj)} {σ : L2.St} {H : Hp} {s : Shared} {Q : VK} {us : List Value} {vs : List V} (M : Mk X.K C f)
    (F : FnOk X.prog X.w X.K X.mg X.base CX k f fd ps sp) (hr : Room (k + 1) X.A) (hb : Binds X.K fd ps [])
    (hx : PassesAt CX X σ (E σ)) (I : Inv X pins σ H s) (r : Vals vs us)
    (h : ∀ x dx, H x = none → H dx = none → dx ≠ x → sp (.ref x :: vs) (upd (upd H dx (.own x)) x (.ins C dx [])) (fun v H2 => v = .non ∧ Q (.ref x) H2) (E σ)) :
    wpAny (model X.prog X.w) X.A (call (.ref C) us) (EP X pins σ Q) X.xe s := by
  obtain ⟨dx, hdx⟩ : ∃ n, n = s.heap.objs.size := ⟨_, rfl⟩
  have w := h (s.heap.objs.size + 1) s.heap.objs.size (I.hok.fresh (Nat.le_succ _)) (I.hok.fresh (Nat.le_refl _)) (Nat.ne_of_lt (Nat.lt_succ_self _))
  have J := Inv.made (C := C) I
  have rr : Vals (V.ref (s.heap.objs.size + 1) :: vs) (Value.ref (s.heap.objs.size + 1) :: us) := .cons rfl r
  have len : ((Value.ref (s.heap.objs.size + 1) :: us) ++ []).length = ps.length := by
    have z := rr.length
    rw [F.len _ _ _ _ w] at z
    rw [List.append_nil]
    exact z.symm
  have bb := hb _ (Value.ref (s.heap.objs.size + 1) :: us) J.kIn len
  rw [List.append_nil] at bb
  refine wpAny_call (make_map (f := f) I.kIn M.makes M.init (beq_iff_eq.mp M.fn) (codeAny_mono (F.run _ X.stack _ _ ⟨Value.ref (s.heap.objs.size + 1) :: us, []⟩
    (Value.ref (s.heap.objs.size + 1) :: us) _ _ (E σ) (hr.make C us []) (J.env0.make C us []) bb rr w) fun g s' z => ?_))
  match g, z with
  | .error e, z => exact hx pins _ _ e s' J z
  | .ok (.ret u), z =>
    obtain ⟨v, H', I3, rv, ev, q3⟩ := J.after z
    subst ev
    exact ⟨rv, ⟨V.ref (s.heap.objs.size + 1), H', I3, rfl, q3⟩⟩
  | .ok .next, z => exact z.elim
  | .ok .brk, z => exact z.elim
  | .ok .cont, z => exact z.elim
theorem pe_makeS (M : Mk X.K C f) (F : FnOk X.prog X.w X.K X.mg X.base CX k f fd ps sp) (hr : Room (k + 1) X.A) (hg : Gl X x) (hm : X.mg x = some (.ref C)) (hb : Binds X.K fd ps [])
    (hx : ∀ σ, PassesAt CX X σ (E σ)) (ha : PA X (e :: es) t) (hdb : (x == ("__debug__" : Str)) = false := by decide)
    (he : starEach (e :: es) X.env = (false, eval e X.env) :: starEach es X.env := by rfl) (hpl : (backTo pos (starEach es X.env)).any (·.1) = false := by rfl) :
    PE X (.Call (.Name x p) (e :: es) [] pos) (tMakeS C sp E t) :=
  ⟨fun pins s σ H Q I h => wpAny_Call_Name_kw (ld_glob I hg hm
    (PySem.W.callWith_K (h₀ := X.base) I.ok.mod.kin M.kp (thn (ha.run pos pins s σ H _ I h) fun us s1 ⟨vs, H1, I1, r, q⟩ => ⟨I1.kIn, run_makeS M F hr hb (hx σ) I1 r q⟩) he hpl) hdb)⟩
end
/-! ### isinstance of the error that a suite holds -/
def rIsX (K : PySem.W.Frag) (a : Addr) (cls : Value) (d : Option Addr) : List V → Hp → VK → Prop := fun xs H Q =>
  ∃ (D C : Addr) (b : Bool), cls = .ref D ∧ d = none ∧ ExcC K D ∧ xs = [.ref a, .ref C] ∧ PySem.W.kitOne K (.ref D) (.ref C) = some b ∧ Q (.bl b) H
theorem call_isX {X : Cx} {a : Addr} {cls : Value} {d : Option Addr} {oe : Obj} {pn : List (Addr × Obj)} (hz : Zc cls d oe) (hf : ∃ vs, oe.data = .fields vs) :
    CallR (X.suite a ((a, oe) :: pn)) (.builtin "isinstance") (rIsX X.K a cls d) := by
  rintro pins s σ H xs us Q I r ⟨D, C, b, rfl, rfl, ec, rfl, hk, q⟩
  exact call_isE ec hz hf pins s σ H _ us Q I r ⟨.ref C, .ref C, b, rfl, fun u z => z, hk, q⟩
def rIsXT (K : PySem.W.Frag) (a : Addr) (cls : Value) (d : Option Addr) : List V → Hp → VK → Prop := fun xs H Q =>
  ∃ (D tp : Addr) (cs : List V) (us : List Value) (b : Bool), cls = .ref D ∧ d = none ∧ ExcC K D ∧ xs = [.ref a, .ref tp] ∧ H tp = some (.tup cs) ∧ Paired ClsV cs us ∧ PySem.W.kitAny K (.ref D) us = some b ∧ Q (.bl b) H
theorem call_isXT {X : Cx} {a : Addr} {cls : Value} {d : Option Addr} {oe : Obj} {pn : List (Addr × Obj)} (hz : Zc cls d oe) (hf : ∃ vs, oe.data = .fields vs) :
    CallR (X.suite a ((a, oe) :: pn)) (.builtin "isinstance") (rIsXT X.K a cls d) := by
  rintro pins s σ H xs vs Q I r ⟨D, tp, cs, us, b, rfl, rfl, ec, rfl, hT, k, hk, q⟩
  obtain ⟨u1, u2, rfl, r1, r2⟩ := vals2 r
  cases (show u2 = Value.ref tp from r2)
  cases (show u1 = Value.ref a from r1)
  obtain ⟨hget, _⟩ := I.pin (a, oe) (List.mem_append.mpr (.inl List.mem_cons_self))
  obtain ⟨fv, hv⟩ := hf
  have J : PySem.W.InstAt s.heap a oe D none := by
    obtain ⟨oc, od, oda, osl⟩ := oe
    obtain ⟨h1, h2⟩ := hz
    dsimp only at h1 h2 hv
    subst h1 h2 hv
    exact ⟨hget, rfl, rfl, trivial⟩
  obtain ⟨_, its, rv, ob, h1, h2, n, h3⟩ := (show ObjOk X.prog X.w H s.heap tp (.tup cs) from I.hok tp _ hT)
  have e3 := ClsV.all k rv
  subst e3
  obtain ⟨oc, od, dt, sl⟩ := ob
  simp only at h2 h3
  subst h2 h3
  exact PySem.W.kia_tup (PySem.W.handS_kitx_exc ec.hg ec.hk ec.hs ec.hd ec.ha ec.hn ec.ht ec.hm) I.kIn J h1 hk (fun z => nomatch z)
    fun tk => ⟨.bl b, H, I.kept (t' := tk) fun _ _ z => z, rfl, q⟩
/-- one own error class against another -/
theorem kit_own {K : PySem.W.Frag} {D C : Addr} {b : Bool} (hD : PySem.W.subIn K (.ref D) (.ref D) = some true) (ec : ExcC K C) (ht : PySem.W.typeIn K (.ref C) = some (.type "type"))
    (h : PySem.W.subIn K (.ref D) (.ref C) = some b) : PySem.W.kitOne K (.ref D) (.ref C) = some b := by
  unfold PySem.W.kitOne
  by_cases e : D = C
  · subst e
    rw [hD] at h
    cases h
    rw [if_pos (by simp)]
  · rw [if_neg (by simpa using fun z => e (Value.ref.inj z))]
    have e1 := PySem.W.exm_ref (cls := .ref D) (C := C) ec.hs ec.hd ht h
    unfold PySem.W.exmOne at e1
    split at e1
    · exact e1
    · cases e1
theorem exm_own {K : PySem.W.Frag} {D C : Addr} {b : Bool} (ec : ExcC K C) (ht : PySem.W.typeIn K (.ref C) = some (.type "type")) (h : PySem.W.subIn K (.ref D) (.ref C) = some b) :
    PySem.W.exmOne K (.ref D) (.ref C) = some b := PySem.W.exm_ref ec.hs ec.hd ht h
end Mz

set_option Elab.async false
set_option linter.all false
set_option maxRecDepth 100000
set_option maxHeartbeats 4000000
/-! all(..) of a generator expression over a list or a tuple, by what its element gives for each item -/
namespace Mz
open PySem PySem.Spec PyProof.Rows L2 GxR
section
variable {X : Cx} {pins : List (Addr × Obj)} {σ : L2.St} {H : Hp} {s : Shared}
/-- a generator that will give the truths tr, n of them -/
def ReadyB (X : Cx) (pins : List (Addr × Obj)) (σ : L2.St) (H1 : Hp) (P : Addr) (n : Nat) (tr : Nat → Bool) (g : Addr) (s5 : Shared) : Prop :=
  ∃ (fp wr : List Addr) (G : Array GenState → Array GenState → Prop) (F : Nat → Value → Prop) (St : Nat → Shared → Prop), WalksS X.prog X.w X.A.in1 g fp wr G n F St ∧
    St 0 s5 ∧ TruthOf X.prog X.w X.A.in1 F tr ∧ ∀ s', Moved wr G s5 s' → ∃ H2, Tabbed P H1 H2 ∧ Inv X pins σ H2 s'
/-- the element at the item i, whatever time it is -/
def EltI (X : Cx) (P : Addr) (scope : Scope) (x : Str) (elt : Expr) (s1 : Shared) (Pf : Nat → Value → Prop) (tr : Nat → Bool) : Prop :=
  ∀ (cenv : Env) (A' : Around) (E' : Value → Shared → Prop) (i : Nat) (v : Value) (s₂ : Shared) (m₂ : Str → Option Value), cenv.scope = scope → cenv.cells = cloFrom X.env.cells scope.names [] →
    cenv.globals = X.env.globals → A'.handled = none → A'.units ≤ X.A.units + 8 → Pf i v → s₂.heap.Ns cenv.locals m₂ → m₂ x = some v → (∀ b u, b ≠ P → s1.heap.get? b = some u → s₂.heap.get? b = some u) →
    wpAny (model X.prog X.w) A' (eval elt cenv) (fun y s₃ => y = .bool (tr i) ∧ Keeps s₂ s₃) E' s₂
theorem gen_run {c P : Addr} {elt : Expr} {x : Str} {gpos : Pos} {scope : Scope} {k : Nat} {Q' : Value → Shared → Prop} {xv : Value} {o : Obj} {n : Nat} {Pf : Nat → Value → Prop} {St : Nat → Heap → Prop} {fp : List Addr} {tr : Nat → Bool}
    (hr : Room k X.A) (TB : TabB X.base X.mg c P) (hcode : X.env.code = .ref c) (I : Inv X pins σ H s) (hT : TabG H P)
    (hit : ∀ Q₂ : Value → Shared → Prop, Q₂ (.ref s.heap.objs.size) { s with heap := s.heap.push o } → wpAny (model X.prog X.w) X.A (pyIter xv) Q₂ X.xe s)
    (hW : ∀ A' : Around, A'.handled = none → Walks X.prog X.w A' s.heap.objs.size fp [s.heap.objs.size] n Pf St)
    (hst : ∀ h3 : Heap, (∀ b u, b ≠ P → (s.heap.push o).get? b = some u → h3.get? b = some u) → St 0 h3) (hfp : ∀ b ∈ fp, b ≤ s.heap.objs.size)
    (hel : EltI X P scope x elt s Pf tr) (hQ : ∀ g s5, ReadyB X pins σ H P n tr g s5 → Q' (.ref g) s5) :
    wpAny (model X.prog X.w) X.A (pyIter xv) (fun it s₂ => s₂.heap.NoLimit ∧ wpAny (model X.prog X.w) X.A (genexprCode X.env gpos (X.env.qual ++ "<genexpr>") scope) (fun code s₃ =>
      wpAny (model X.prog X.w) X.A (builtinsFor X.env.globals X.env.builtins) (fun bi s₄ => ∃ I fp wr n₀ P St₀ pz F, it = .ref I ∧ (∀ A' : Around, A'.handled = none → Walks X.prog X.w A' I fp wr n₀ P St₀) ∧ St₀ 0 s₄.heap ∧
        (∀ b ∈ fp, b < s₄.heap.objs.size) ∧ s₄.heap.NoLimit ∧ cStatics ∉ wr ∧ (∀ href : Heap, (∀ b o, s₄.heap.get? b = some o → href.get? b = some o) →
          QuietGenD X.prog X.w (genEnv scope (cloFrom X.env.cells scope.names []) s₄.heap.objs.size code bi X.env) x [] elt (List.range s₄.heap.objs.size) wr P pz F href (X.A.depth + 1) (X.A.units + 8)) ∧
        (∀ a h₅ tk gs, gs.bare = true → s₄.heap.objs.size < a → h₅.objs.size = a + 1 → (∀ b o, s₄.heap.get? b = some o → h₅.get? b = some o) → WalksS X.prog X.w X.A.in4 a (a :: s₄.heap.objs.size :: List.range s₄.heap.objs.size) (s₄.heap.objs.size :: wr)
            (GenOnlyQ s₄.gens.size) (passing pz n₀ 0).length (fun j y => ∃ i, (passing pz n₀ 0)[j]? = some i ∧ F i y) (GenAt X.prog X.w X.A.in4 a s₄.gens.size s₄.heap.objs.size (List.range s₄.heap.objs.size) wr pz n₀ F) →
          GenAt X.prog X.w X.A.in4 a s₄.gens.size s₄.heap.objs.size (List.range s₄.heap.objs.size) wr pz n₀ F 0 { s₄ with gens := s₄.gens.push gs, toks := tk, heap := h₅ } → Q' (.ref a) { s₄ with gens := s₄.gens.push gs, toks := tk, heap := h₅ })) X.xe s₃) X.xe s₂) X.xe s := by
  obtain ⟨ps, hP, ht⟩ := hT
  refine hit _ ?_
  have hPs := I.hok P _ hP
  have hPs : s.heap.get? P = some { cls := .none, data := .fields ps } := hPs
  have Plt := Heap.lt_size hPs
  have hP2 : (s.heap.push o).get? P = some { cls := .none, data := .fields ps } := Heap.get?_push_of_some _ hPs
  have cd := TB.code.keeps fun b u e => Heap.get?_push_of_some o (I.bk b u e)
  have lim2 := I.nolimit.push o
  have stat : cStatics ≠ P ∧ cStatics < s.heap.objs.size := by
    obtain ⟨_, hns, _⟩ := I.nolimit
    refine ⟨fun e => ?_, hns.lt⟩
    obtain ⟨o', es, ep, ho, hd, _⟩ := hns
    rw [e, hPs] at ho
    cases ho
    cases hd
  refine ⟨lim2, ?_⟩
  -- what follows once the code object is there: its table at P holds ps', grown out of ps
  have rest : ∀ (h3 : Heap) (tk : Nat) (more : Array Value), Heap.ExtBut P (s.heap.push o) h3 → (s.heap.push o).objs.size ≤ h3.objs.size → h3.get? P = some { cls := .none, data := .fields (ps ++ more) } → TriplesOk (ps ++ more).toList →
      ∀ (Qb : Addr → Shared → Prop), (∀ bi : Addr, Qb bi { s with heap := h3, toks := tk }) → wpAny (model X.prog X.w) X.A (builtinsFor X.env.globals X.env.builtins) Qb X.xe { s with heap := h3, toks := tk } := by
    intro h3 tk more hx hsz hP3 ht3 Qb hQb
    obtain ⟨bm, ob, e1, e2, e3, e4, e5, e6, e7, e8⟩ := TB.bm
    have old : ∀ b u, b ≠ P → s.heap.get? b = some u → h3.get? b = some u := fun b u hb e => hx b u hb (Heap.get?_push_of_some _ e)
    refine wpAny_builtinsFor (m := X.mg) ?_ e1 e2 (old _ _ e4 (I.bk _ _ e5)) e6 e7 e8 (hQb _)
    rw [I.ok.glob]
    exact ((I.mod.glob.keeps I.bk).push o).extBut hx TB.gP
  have core : ∀ (code : Value) (h3 : Heap) (tk : Nat) (more : Array Value) (bi : Addr), Heap.ExtBut P (s.heap.push o) h3 → (s.heap.push o).objs.size ≤ h3.objs.size → h3.get? P = some { cls := .none, data := .fields (ps ++ more) } → TriplesOk (ps ++ more).toList →
      (∀ b ∈ fp, b < h3.objs.size) ∧ h3.NoLimit ∧ cStatics ∉ [s.heap.objs.size] ∧ (∀ href : Heap, (∀ b o, h3.get? b = some o → href.get? b = some o) →
        QuietGenD X.prog X.w (genEnv scope (cloFrom X.env.cells scope.names []) h3.objs.size code bi X.env) x [] elt (List.range h3.objs.size) [s.heap.objs.size] Pf (fun _ => true) (fun i y => i < n → y = .bool (tr i)) href (X.A.depth + 1) (X.A.units + 8)) := by
    intro code h3 tk more bi hx hsz hP3 ht3
    have sz2 : (s.heap.push o).objs.size = s.heap.objs.size + 1 := Heap.size_push ..
    refine ⟨fun b hb => ?_, lim2.extBut hx stat.1, fun z => ?_, fun href hh => ⟨?_, ?_⟩⟩
    · exact Nat.lt_of_le_of_lt (hfp b hb) (show s.heap.objs.size < h3.objs.size by omega)
    · have z2 := List.mem_singleton.mp z
      exact absurd stat.2 (by rw [z2]; exact Nat.lt_irrefl _)
    · intro A' E' i v s₂ m₂ _ _ _ _ _ _ _
      simp only [List.forIn_nil]
      exact wpAny_pure ⟨rfl, keeps_refl _⟩
    · intro A' E' i v s₂ m₂ hA _ hU hPf _ hn hm hk
      refine wpAny_mono (hel _ A' E' i v s₂ m₂ rfl rfl rfl hA hU hPf hn hm fun b u hb e => ?_) (fun y s₃ q => ⟨fun _ => q.1, q.2⟩) fun _ _ q => q
      have h3b := hx b u hb (Heap.get?_push_of_some _ e)
      refine hk b (List.mem_range.mpr (Heap.lt_size h3b)) (fun z => ?_) u (hh b u h3b)
      rw [List.mem_singleton.mp z] at e
      exact absurd (Heap.lt_size e) (Nat.lt_irrefl _)
  have fin : ∀ (h3 : Heap) (tk : Nat) (more : Array Value), Heap.ExtBut P (s.heap.push o) h3 → (s.heap.push o).objs.size ≤ h3.objs.size → h3.get? P = some { cls := .none, data := .fields (ps ++ more) } → TriplesOk (ps ++ more).toList →
      ∀ (a : Addr) (h₅ : Heap) (tk5 : Nat) (gs : GenState), gs.bare = true → h3.objs.size < a → (∀ b o, h3.get? b = some o → h₅.get? b = some o) →
      WalksS X.prog X.w X.A.in4 a (a :: h3.objs.size :: List.range h3.objs.size) (h3.objs.size :: [s.heap.objs.size]) (GenOnlyQ s.gens.size) (passing (fun _ => true) n 0).length (fun j y => ∃ i, (passing (fun _ => true) n 0)[j]? = some i ∧ (i < n → y = .bool (tr i)))
        (GenAt X.prog X.w X.A.in4 a s.gens.size h3.objs.size (List.range h3.objs.size) [s.heap.objs.size] (fun _ => true) n fun i y => i < n → y = .bool (tr i)) →
      GenAt X.prog X.w X.A.in4 a s.gens.size h3.objs.size (List.range h3.objs.size) [s.heap.objs.size] (fun _ => true) n (fun i y => i < n → y = .bool (tr i)) 0 { s with gens := s.gens.push gs, toks := tk5, heap := h₅ } →
      Q' (.ref a) { s with gens := s.gens.push gs, toks := tk5, heap := h₅ } := by
    intro h3 tk more hx hsz hP3 ht3 a h₅ tk5 gs hgb hag hk5 W5 hat
    have sz2 : (s.heap.push o).objs.size = s.heap.objs.size + 1 := Heap.size_push ..
    have old : ∀ b u, b ≠ P → s.heap.get? b = some u → h3.get? b = some u := fun b u hb e => hx b u hb (Heap.get?_push_of_some _ e)
    simp only [GxR.passing_true, List.length_range] at W5
    refine hQ a _ ⟨_, _, _, _, _, W5.in4_1, hat, ?_, fun s' hm => ?_⟩
    · rintro j y sj Qj Ej ⟨i, hij, hy⟩ hQj
      obtain ⟨hj, ej⟩ := List.getElem?_eq_some_iff.mp hij
      rw [List.length_range] at hj
      rw [List.getElem_range] at ej
      subst ej
      rw [hy hj]
      exact wpAny_truthy_bool hQj
    · have far : ∀ b u, s.heap.get? b = some u → b ∉ h3.objs.size :: [s.heap.objs.size] := fun b u e hb => by
        have l := Heap.lt_size e
        rcases List.mem_cons.mp hb with z | z
        · rw [z] at l
          exact absurd l (Nat.not_lt.mpr (show s.heap.objs.size ≤ h3.objs.size by omega))
        · rw [List.mem_singleton.mp z] at l
          exact Nat.lt_irrefl _ l
      have J := inv_tab (more := more) (h' := s'.heap) (g' := s'.gens) (d' := s'.drawn) (t' := s'.toks) I hP
        (fun b u hb e => hm.heap b u (far b u e) (hk5 b u (old b u hb e))) (hm.heap P _ (far P _ hPs) (hk5 P _ hP3)) (AllBare.movedS (I.bare.push hgb) hm)
      rw [sh_eta s s' hm.os] at J
      exact ⟨_, ⟨⟨_, upd_same, ht3⟩, fun b hb => upd_ne hb⟩, J⟩
  cases hf : codeAmong gpos ps.toList with
  | none =>
    refine wpAny_genexprCodeX hcode (cd.code hP2 ht) (cd.tab hP2) hf fun c' h' tk hx hge hlt hco' _ htab' _ => ?_
    obtain ⟨o1, vs, f1, tf, fl, tg, inF, tx, tt, op, _, _, _, _, _, _, _, _, _, htr, _⟩ := hco'
    have hsz := Nat.le_trans hge (Nat.le_of_lt hlt)
    refine rest h' tk _ hx hsz htab'.2 htr _ fun bi => ?_
    refine ⟨_, fp, _, n, Pf, St, (fun _ => true), (fun i y => i < n → y = .bool (tr i)), rfl, hW, hst h' hx, ?_⟩
    obtain ⟨q1, q2, q3, q4⟩ := core _ h' tk _ bi hx hsz htab'.2 htr
    exact ⟨q1, q2, q3, q4, fun a h₅ tk5 gs g1 g2 _ g4 => fin h' tk _ hx hsz htab'.2 htr a h₅ tk5 gs g1 g2 g4⟩
  | some cv =>
    refine wpAny_genexprCode_hit hcode (cd.code hP2 ht) hf ?_
    have e0 : ps ++ #[] = ps := by simp
    have hP3 : (s.heap.push o).get? P = some { cls := .none, data := .fields (ps ++ #[]) } := by rw [e0]; exact hP2
    have ht3 : TriplesOk (ps ++ #[]).toList := by rw [e0]; exact ht
    have hx0 : Heap.ExtBut P (s.heap.push o) (s.heap.push o) := Heap.ExtBut.refl _ _
    refine rest (s.heap.push o) s.toks #[] hx0 (Nat.le_refl _) hP3 ht3 _ fun bi => ?_
    refine ⟨_, fp, _, n, Pf, St, (fun _ => true), (fun i y => i < n → y = .bool (tr i)), rfl, hW, hst _ hx0, ?_⟩
    obtain ⟨q1, q2, q3, q4⟩ := core cv (s.heap.push o) s.toks #[] bi hx0 (Nat.le_refl _) hP3 ht3
    exact ⟨q1, q2, q3, q4, fun a h₅ tk5 gs g1 g2 _ g4 => fin (s.heap.push o) s.toks #[] hx0 (Nat.le_refl _) hP3 ht3 a h₅ tk5 gs g1 g2 g4⟩
/-- the element for an item v of which G says that it gives b -/
def EltB (X : Cx) (P : Addr) (scope : Scope) (x : Str) (elt : Expr) (G : L2.St → Hp → V → Bool → Prop) : Prop :=
  ∀ (pins : List (Addr × Obj)) (σ : L2.St) (H : Hp) (s1 : Shared) (v : V) (b : Bool), Inv X pins σ H s1 → TabG H P → G σ H v b → ∀ (cenv : Env) (A' : Around) (E' : Value → Shared → Prop) (u : Value) (s₂ : Shared) (m₂ : Str → Option Value),
    cenv.scope = scope → cenv.cells = cloFrom X.env.cells scope.names [] → cenv.globals = X.env.globals → A'.handled = none → A'.units ≤ X.A.units + 8 → RelV v u → s₂.heap.Ns cenv.locals m₂ → m₂ x = some u →
    (∀ b u, b ≠ P → s1.heap.get? b = some u → s₂.heap.get? b = some u) → wpAny (model X.prog X.w) A' (eval elt cenv) (fun y s₃ => y = .bool b ∧ Keeps s₂ s₃) E' s₂
/-- the truths in their places -/
def trAt (f : V → Bool) (vs : List V) (j : Nat) : Bool := match vs[j]? with
  | some z => f z
  | none => true
theorem trAt_all (f : V → Bool) (vs : List V) : (List.range vs.length).all (trAt f vs) = vs.all f := by
  rw [Bool.eq_iff_iff, List.all_eq_true, List.all_eq_true]
  constructor
  · intro h z hz
    obtain ⟨j, hj, e⟩ := List.getElem_of_mem hz
    have q := h j (List.mem_range.mpr hj)
    unfold trAt at q
    rw [List.getElem?_eq_getElem hj, e] at q
    exact q
  · intro h j hj
    unfold trAt
    rw [List.getElem?_eq_getElem (List.mem_range.mp hj)]
    exact h _ (List.getElem_mem _)
/-- all(elt for x in e), e a list or a tuple; behind it the def's table may have grown -/
def tAllQ (K : PySem.W.Frag) (P : Addr) (G : L2.St → Hp → V → Bool → Prop) (te : TE) : TE := fun σ H Q => te σ H fun v H1 =>
  ∃ (a : Addr) (vs : List V) (f : V → Bool), v = .ref a ∧ (SqL K H1 a vs ∨ SqT K H1 a vs) ∧ TabG H1 P ∧ (∀ z ∈ vs, G σ H1 z (f z)) ∧ ∀ H2, Tabbed P H1 H2 → Q (.bl (vs.all f)) H2
theorem pe_allQ {c P : Addr} {elt iter : Expr} {x : Str} {px p pos gpos : Pos} {scope : Scope} {G : L2.St → Hp → V → Bool → Prop} {te : TE} {k : Nat} (hr : Room k X.A) (hg : Gl X "all") (hm : X.mg "all" = none)
    (TB : TabB X.base X.mg c P) (hcode : X.env.code = .ref c) (S : GenS X.env scope x) (hi : PE X iter te) (hel : EltB X P scope x elt G) (hs : ∀ v, genFold iter X.env v = pure v)
    (hb : bootBuiltins "all" = some (.builtin "all") := by decide +kernel)
    (he : starEach [.GeneratorExp elt [⟨.Name x px, iter, [], 0⟩] scope gpos] X.env = (false, eval (.GeneratorExp elt [⟨.Name x px, iter, [], 0⟩] scope gpos) X.env) :: starEach [] X.env := by rfl) :
    PE X (.Call (.Name "all" p) [.GeneratorExp elt [⟨.Name x px, iter, [], 0⟩] scope gpos] [] pos) (tAllQ X.K P G te) := by
  refine ⟨fun pins s σ H Q I h => wpAny_Call_Name_kw (ld_blt I hg hm hb (PyProof.Rows.callWith_builtin1 ?_ he (by rfl)))⟩
  rw [he]
  show wpAny _ _ (spliced ((false, eval (.GeneratorExp elt [⟨.Name x px, iter, [], 0⟩] scope gpos) X.env) :: backTo pos (starEach [] X.env))) _ _ s
  refine Calls.spliced_cons (wpAny_GeneratorExp_walksQD hr.hd S.co (closure_ok S.free) S.cell S.dot S.loc S.kind (by have := hr.dp; omega) ?_ hs)
  refine thn (hi.run pins s σ H _ I h) fun xv s1 ⟨v, H1, I1, r1, a, vs, f, ev, hq, hT, hG, hQ⟩ => ?_
  subst ev
  obtain rfl : xv = Value.ref a := r1
  -- the generator is made: it is walked
  have done : ∀ (n : Nat), n = vs.length → ∀ (g : Addr) (s5 : Shared), ReadyB X pins σ H1 P n (trAt f vs) g s5 → wpAny (model X.prog X.w) X.A (spliced (backTo pos (starEach [] X.env))) (fun ws s6 => wpAny (model X.prog X.w) X.A (call (.builtin "all") (.ref g :: ws)) (EP X pins σ Q) X.xe s6) X.xe s5 := by
    rintro n rfl g s5 ⟨fp, wr, Gq, F, St, W, hst, htr, hI⟩
    refine Calls.spliced_nil ?_
    refine call_all_walkS (W.self 0 _ _ _ hst ⟨g, fp, wr, Gq, _, F, St, _, rfl, W, hst, htr, fun s' hmv => ?_⟩)
    obtain ⟨H2, hT2, J⟩ := hI s' hmv
    refine ⟨.bl _, H2, J, rfl, ?_⟩
    rw [trAt_all]
    exact hQ H2 hT2
  obtain ⟨ps, hP, ht⟩ := id hT
  have hPs : s1.heap.get? P = some { cls := .none, data := .fields ps } := I1.hok P _ hP
  have item : ∀ (its : List Value), Vals vs its → EltI X P scope x elt s1 (fun i v => its.toArray[i]? = some v) (trAt f vs) := by
    intro its rv cenv A' E' i v s₂ m₂ c1 c2 c3 hA hU hv hn hmx hk
    have hv2 : its[i]? = some v := by simpa using hv
    obtain ⟨hl, _⟩ := List.getElem?_eq_some_iff.mp hv2
    rw [← rv.length] at hl
    have hz := List.getElem?_eq_getElem hl
    obtain ⟨u, hu, ru⟩ := rv.get hz
    rw [hv2] at hu
    cases hu
    have e : trAt f vs i = f vs[i] := by
      unfold trAt
      rw [hz]
    rw [e]
    exact hel pins σ H1 s1 vs[i] (f vs[i]) I1 hT (hG _ (List.getElem_mem hl)) cenv A' E' v s₂ m₂ c1 c2 c3 hA hU ru hn hmx hk
  rcases hq with hq | hq
  · obtain ⟨its, rv, pl, _⟩ := I1.list hq
    have hIL := pl.isList
    obtain ⟨ob, e1, e2⟩ := id hIL
    have aP : a ≠ P := fun z => by
      rw [z, hPs] at e1
      cases e1
      obtain ⟨_, _, e4⟩ := e2
      cases e4
    refine gen_run (Q' := fun v s5 => wpAny (model X.prog X.w) X.A (spliced (backTo pos (starEach [] X.env))) (fun ws s6 => wpAny (model X.prog X.w) X.A (call (.builtin "all") (v :: ws)) (EP X pins σ Q) X.xe s6) X.xe s5) (n := its.toArray.size) (Pf := fun i v => its.toArray[i]? = some v) (fp := [s1.heap.objs.size, a]) hr TB hcode I1 hT (fun Q₂ q => wpAny_pyIter_list hIL q) (fun A' hA => Walks.list hA _ _ (Nat.ne_of_lt (Heap.lt_size e1)) _) (fun h3 hx => ⟨?_, ?_⟩) ?_ (item its rv) (fun g s5 hR => ?_)
    · exact ⟨_, hx _ _ (Nat.ne_of_gt (Heap.lt_size hPs)) (Heap.get?_push_size _ rfl), rfl, rfl⟩
    · exact ⟨ob, hx _ _ aP (Heap.get?_push_of_some _ e1), e2⟩
    · intro b hb
      rcases List.mem_cons.mp hb with z | z
      · rw [z]
        exact Nat.le_refl _
      · rw [List.mem_singleton.mp z]
        exact Nat.le_of_lt (Heap.lt_size e1)
    · exact done its.toArray.size (by rw [List.size_toArray, rv.length]) g s5 hR
  · obtain ⟨its, rv, pl, _⟩ := I1.tuple hq
    have hIL : s1.heap.IsTuple a its.toArray := pl
    obtain ⟨ob, e1, e2⟩ := id hIL
    have aP : a ≠ P := fun z => by
      rw [z, hPs] at e1
      cases e1
      obtain ⟨_, _, e4⟩ := e2
      cases e4
    refine gen_run (Q' := fun v s5 => wpAny (model X.prog X.w) X.A (spliced (backTo pos (starEach [] X.env))) (fun ws s6 => wpAny (model X.prog X.w) X.A (call (.builtin "all") (v :: ws)) (EP X pins σ Q) X.xe s6) X.xe s5) (n := its.toArray.size) (Pf := fun i v => its.toArray[i]? = some v) (fp := [s1.heap.objs.size, a]) hr TB hcode I1 hT (fun Q₂ q => wpAny_pyIter_tuple hIL q) (fun A' hA => Walks.tuple hA _ _ (Nat.ne_of_lt (Heap.lt_size e1)) _) (fun h3 hx => ⟨?_, ?_⟩) ?_ (item its rv) (fun g s5 hR => ?_)
    · exact ⟨_, hx _ _ (Nat.ne_of_gt (Heap.lt_size hPs)) (Heap.get?_push_size _ rfl), rfl, rfl⟩
    · exact ⟨ob, hx _ _ aP (Heap.get?_push_of_some _ e1), e2⟩
    · intro b hb
      rcases List.mem_cons.mp hb with z | z
      · rw [z]
        exact Nat.le_refl _
      · rw [List.mem_singleton.mp z]
        exact Nat.le_of_lt (Heap.lt_size e1)
    · exact done its.toArray.size (by rw [List.size_toArray, rv.length]) g s5 hR
/-- 0 <= x < y, y a captured name that stands in the slot j -/
def GBelow (j : Nat) : L2.St → Hp → V → Bool → Prop := fun σ _ v b => ∃ n L : Int, v = .int n ∧ σ[j]? = some (some (.int L)) ∧ b = (decide (0 ≤ n) && decide (n < L))
theorem elt_below {P : Addr} {scope : Scope} {x y : Str} {j jc : Nat} {p0 p1 p2 p3 : Pos} (hk : scope.kind = .function) (hx : scope.names.lookup x = some .local) (hy : scope.names.lookup y = some .free) (hN : X.N[j]? = some y) (hv : X.env.scope.names.lookup y = some .cell)
    (hclo : (cloFrom X.env.cells scope.names []).lookup y = some ((X.env.cells.lookup y).getD 0))
    (hd : (x == ("__debug__" : Str)) = false := by decide) (hd2 : (y == ("__debug__" : Str)) = false := by decide) (hcd : (y == ("__classdict__" : Str)) = false := by decide) :
    EltB X P scope x (.Compare (.Constant (.int 0) jc p0) [.LtE, .Lt] [.Name x p1, .Name y p2] p3) (GBelow j) := by
  rintro pins σ H s1 v b I ⟨ps, hT, _⟩ ⟨n, L, rfl, hj, rfl⟩ cenv A' E' u s₂ m₂ rfl c2 _ _ _ ru hn hm kept
  obtain ⟨t, rfl⟩ := (show ∃ t, u = Value.int n t from ru)
  obtain ⟨m, _, hl⟩ := I.loc
  obtain ⟨uL, rL, look⟩ := hl j y _ hN hj (.inr (.inl hv))
  obtain ⟨tL, rfl⟩ := (show ∃ t, uL = Value.int L t from rL)
  have hP : s1.heap.get? P = some { cls := .none, data := .fields ps } := I.hok P _ hT
  rcases look with ⟨z, _⟩ | ⟨_, cc, hc, hcell⟩
  · rw [show X.env.kindOf y = X.env.scope.names.lookup y from rfl, hv] at z
    cases z
  · have hcell2 : s₂.heap.IsCell cc (some (.int L tL)) := by
      obtain ⟨o, e1, e2⟩ := hcell
      refine ⟨o, kept cc o (fun z => ?_) e1, e2⟩
      rw [z, hP] at e1
      cases e1
      cases e2
    refine Compare_chain (wpAny_Constant_int (chain_link ?_))
    refine wpAny_Name (wpAny_loadName_local hk hx hn hm ?_) hd
    refine le_int (wpAny_truthy_bool ?_)
    by_cases c0 : 0 ≤ n
    · rw [decide_eq_true c0, Bool.true_and]
      refine ite_tt (chain_last (wpAny_Name (wpAny_loadName_free hk hy (c := cc) ?_ hcell2 ?_ hcd) hd2))
      · rw [c2, hclo, hc] <;> rfl
      · exact lt_int ⟨rfl, keeps_tok _ _⟩
    · rw [decide_eq_false c0, Bool.false_and]
      exact ite_ff ⟨rfl, keeps_tok _ _⟩
end
end Mz

set_option Elab.async false
set_option linter.all false
set_option maxRecDepth 100000
set_option maxHeartbeats 4000000
/-! what the laws' own helpers draw: numbers, sizes, machines -/
namespace Mz
open PySem PySem.Spec PyProof.Rows L2
theorem same_upd {H H' : Hp} {p : Addr} {o : HO} (s : Same H H') (h : H' p = none) : Same H (upd H' p o) := fun b u e => by
  rw [upd_ne (ne_of_none (s b u e) h)]
  exact s b u e
theorem same_set {H H' : Hp} {p : Addr} {o : HO} (s : Same H H') (h : H p = none) : Same H (L2.upd H' p o) := fun b u e => by
  rw [upd_ne (ne_of_none e h)]
  exact s b u e
theorem getV {α : Type} {f : α → V} {ns : List α} {j : Nat} {z : α} (h : ns[j]? = some z) : (ns.map f)[j]? = some (f z) := by
  rw [List.getElem?_map, h]
  rfl
theorem ofV {α : Type} {f : α → V} {ns : List α} {j : Nat} {y : V} (h : (ns.map f)[j]? = some y) : ∃ z, ns[j]? = some z ∧ y = f z := by
  rw [List.getElem?_map] at h
  cases e : ns[j]? with
  | none =>
    rw [e] at h
    cases h
  | some z =>
    rw [e] at h
    exact ⟨z, rfl, (Option.some.inj h).symm⟩
theorem atI_get? {α : Type} {f : α → V} {ns : List α} {i : Int} {z : α} (h0 : 0 ≤ i) (h : ns[i.toNat]? = some z) : atI (ns.map f) i = some (f z) := by
  have e : i = ((i.toNat : Nat) : Int) := by omega
  rw [e]
  exact atI_nat (getV h)
theorem take_more {α : Type} : ∀ {l : List α} {i : Nat} {x : α}, l[i]? = some x → l.take (i + 1) = l.take i ++ [x]
  | [], i, x, h => by simp at h
  | a :: l, 0, x, h => by
    have e : a = x := Option.some.inj h
    subst e
    rfl
  | a :: l, i + 1, x, h => by
    have ih := take_more (l := l) (i := i) (x := x) h
    show a :: l.take (i + 1) = a :: l.take i ++ [x]
    rw [ih]
    rfl
/-! ### the numbers -/
/-- what a stream holds -/
structure Strm (ns : List Int) : Prop where
  ne : 0 < ns.length
  few : ns.length ≤ 4000
  ok : ∀ z ∈ ns, 0 ≤ z ∧ z < 1009
/-- the number at a place, below many -/
def pk (ns : List Int) (i many : Int) : Int := ns.getD (i % (ns.length : Int)).toNat 0 % many
theorem pk_lo {ns : List Int} {i many : Int} (h : 0 < many) : 0 ≤ pk ns i many := Int.emod_nonneg _ (by omega)
theorem pk_hi {ns : List Int} {i many : Int} (h : 0 < many) : pk ns i many < many := Int.emod_lt_of_pos _ h
theorem pk_at {ns : List Int} (i : Int) (h : 0 < ns.length) : ∃ z, ns[(i % (ns.length : Int)).toNat]? = some z ∧ ns.getD (i % (ns.length : Int)).toNat 0 = z ∧ 0 ≤ i % (ns.length : Int) := by
  have h0 := Int.emod_nonneg i (show (ns.length : Int) ≠ 0 by omega)
  have h1 := Int.emod_lt_of_pos i (show 0 < (ns.length : Int) by omega)
  have lt : (i % (ns.length : Int)).toNat < ns.length := by omega
  refine ⟨ns[(i % (ns.length : Int)).toNat], List.getElem?_eq_getElem lt, ?_, h0⟩
  rw [List.getD_eq_getElem?_getD, List.getElem?_eq_getElem lt]
  rfl
/-! ### machines -/
structure Mach where
  ls : Int
  os : Int
  rows : List (List Int)
  outs : List Int
/-- a tuple of ints -/
def IT (H : Hp) (a : Addr) (ns : List Int) : Prop := H a = some (.tup (ns.map V.int))
/-- the machine M stands at m -/
structure MAt (H : Hp) (m : Addr) (M : Mach) (mv ou : Addr) (rs : List Addr) : Prop where
  top : H m = some (.tup [.int M.ls, .int M.os, .ref mv, .ref ou])
  mv : H mv = some (.tup (rs.map V.ref))
  ou : IT H ou M.outs
  len : rs.length = M.rows.length
  row : ∀ (i : Nat) (r : Addr) (w : List Int), rs[i]? = some r → M.rows[i]? = some w → IT H r w
def MA (H : Hp) (m : Addr) (M : Mach) : Prop := ∃ mv ou rs, MAt H m M mv ou rs
theorem MAt.same {H H' : Hp} {m : Addr} {M : Mach} {mv ou : Addr} {rs : List Addr} (h : MAt H m M mv ou rs) (s : Same H H') : MAt H' m M mv ou rs :=
  ⟨s _ _ h.top, s _ _ h.mv, s _ _ h.ou, h.len, fun i r w a b => s _ _ (h.row i r w a b)⟩
theorem MA.same {H H' : Hp} {m : Addr} {M : Mach} (h : MA H m M) (s : Same H H') : MA H' m M := by
  obtain ⟨mv, ou, rs, h⟩ := h
  exact ⟨mv, ou, rs, h.same s⟩
/-- what check_machine asks -/
structure Good (M : Mach) : Prop where
  l1 : 1 ≤ M.ls
  l4 : M.ls ≤ 4
  o1 : 1 ≤ M.os
  o6 : M.os ≤ 6
  s1 : 1 ≤ M.rows.length
  s30 : M.rows.length ≤ 30
  ol : M.outs.length = M.rows.length
  rl : ∀ w ∈ M.rows, (w.length : Int) = M.ls
  rb : ∀ w ∈ M.rows, ∀ z ∈ w, 0 ≤ z ∧ z < (M.rows.length : Int)
  ob : ∀ z ∈ M.outs, 0 ≤ z ∧ z < M.os
/-- the next state -/
def Mach.next (M : Mach) (s a : Int) : Int := (M.rows.getD s.toNat []).getD a.toNat 0
def Mach.run (M : Mach) (s : Int) (w : List Int) : Int := w.foldl M.next s
def Mach.out (M : Mach) (s : Int) : Int := M.outs.getD s.toNat 0
/-- a state -/
def Mach.St (M : Mach) (s : Int) : Prop := 0 ≤ s ∧ s < (M.rows.length : Int)
/-- letters -/
def Lt (k : Int) (w : List Int) : Prop := ∀ z ∈ w, 0 ≤ z ∧ z < k
theorem Good.st0 {M : Mach} (g : Good M) : M.St 0 := ⟨by decide, by have := g.s1; omega⟩
theorem Good.row {M : Mach} (g : Good M) {s : Int} (h : M.St s) : ∃ w, M.rows[s.toNat]? = some w ∧ w ∈ M.rows ∧ M.rows.getD s.toNat [] = w := by
  have lt : s.toNat < M.rows.length := by have := h.1; have := h.2; omega
  refine ⟨M.rows[s.toNat], List.getElem?_eq_getElem lt, List.getElem_mem lt, ?_⟩
  rw [List.getD_eq_getElem?_getD, List.getElem?_eq_getElem lt]
  rfl
theorem Good.step {M : Mach} (g : Good M) {s a : Int} (h : M.St s) (h0 : 0 ≤ a) (h1 : a < M.ls) : M.St (M.next s a) ∧ ∃ w, M.rows[s.toNat]? = some w ∧ w[a.toNat]? = some (M.next s a) := by
  obtain ⟨w, e1, e2, e3⟩ := g.row h
  have l := g.rl w e2
  have lt : a.toNat < w.length := by omega
  have e : M.next s a = w[a.toNat] := by
    unfold Mach.next
    rw [e3, List.getD_eq_getElem?_getD, List.getElem?_eq_getElem lt]
    rfl
  rw [e]
  exact ⟨g.rb w e2 _ (List.getElem_mem lt), w, e1, List.getElem?_eq_getElem lt⟩
theorem Good.outp {M : Mach} (g : Good M) {s : Int} (h : M.St s) : M.outs[s.toNat]? = some (M.out s) ∧ 0 ≤ M.out s ∧ M.out s < M.os := by
  have lt : s.toNat < M.outs.length := by have := h.1; have := h.2; have := g.ol; omega
  have e : M.out s = M.outs[s.toNat] := by
    unfold Mach.out
    rw [List.getD_eq_getElem?_getD, List.getElem?_eq_getElem lt]
    rfl
  rw [e]
  exact ⟨List.getElem?_eq_getElem lt, g.ob _ (List.getElem_mem lt)⟩
theorem Good.runs {M : Mach} (g : Good M) : ∀ {w : List Int} {s : Int}, M.St s → Lt M.ls w → M.St (M.run s w)
  | [], s, h, _ => h
  | a :: w, s, h, hw => Good.runs g (w := w) (g.step h (hw a (.head _)).1 (hw a (.head _)).2).1 fun z hz => hw z (.tail _ hz)
theorem run_snoc (M : Mach) (s : Int) (w : List Int) (a : Int) : M.run s (w ++ [a]) = M.next (M.run s w) a := by
  unfold Mach.run
  rw [List.foldl_append]
  rfl
/-! ### reading the parts of a machine -/
section
variable {K : PySem.W.Frag} {H : Hp} {m : Addr} {M : Mach} {mv ou : Addr} {rs : List Addr}
theorem MAt.rowAt (h : MAt H m M mv ou rs) {s : Int} (h0 : 0 ≤ s) {w : List Int} (e : M.rows[s.toNat]? = some w) : ∃ r, atI (rs.map V.ref) s = some (.ref r) ∧ IT H r w := by
  obtain ⟨lt, _⟩ := List.getElem?_eq_some_iff.mp e
  have lt2 : s.toNat < rs.length := by rw [h.len]; exact lt
  exact ⟨rs[s.toNat], atI_get? h0 (List.getElem?_eq_getElem lt2), h.row _ _ _ (List.getElem?_eq_getElem lt2) e⟩
end
end Mz

set_option Elab.async false
set_option linter.all false
set_option maxRecDepth 100000
set_option maxHeartbeats 4000000
/-! a walk over a tuple while an error is handled -/
namespace Mz
open PySem PySem.Spec PyProof.Rows L2 L2H HotX
theorem next_tuple_end_hot {prog : Program} {w : World} {A : Around} {E : Value → Shared → Prop} {s : Shared} {it t x1 : Addr} {i : Nat} {items : Array Value} {Q : Option Value → Shared → Prop} (hot : HotAt A x1 s.heap)
    (hit : s.heap.IsTupleIter it t i) (ht : s.heap.IsTuple t items) (hx : items[i]? = none) (hQ : ∀ h', Heap.ExtBut it s.heap h' → Q none { s with heap := h' }) : wpAny (model prog w) A (pyNext (.ref it)) Q E s := by
  obtain ⟨o, ho, hc, hd⟩ := id hit
  obtain ⟨ol, hol, _, nl, hdl⟩ := ht
  obtain ⟨hh, o1, vs1, h1, d1, c1⟩ := hot
  have tT : s.TypeIs (.ref it) "tuple_iterator" := hit.typeIs
  unfold pyNext
  refine wpAny_bind (wpAny_attempt (wpAny_callSpecial?_slot (name := Str.ofString "__next__") tT F.slot_tuple_iterator_next (wpAny_call_entry F.slot_tuple_iterator_next tT F.entry_tuple_iterator_next ?_ (F.args_tuple_iterator_next_1 _))))
  show wpAny _ _ (field (.ref it) 0 >>= fun v => _) _ _ s
  refine wpAny_bind (wpAny_field ho hd (x := .ref t) rfl ?_)
  show wpAny _ _ (ite ((Value.ref t == Value.none) = true) _ _) _ _ s
  rw [if_neg (fun z : (Value.ref t == Value.none) = true => Bool.false_ne_true z)]
  show wpAny _ _ (field (.ref it) 1 >>= fun v => _) _ _ s
  refine wpAny_bind (wpAny_field ho hd (x := .int i 0) rfl ?_)
  show wpAny _ _ (seqItems? (.ref t) >>= fun v => _) _ _ s
  refine wpAny_bind (wpAny_seqItems hol hdl ?_)
  simp only [Int.toNat_natCast, hx]
  have apart : x1 ≠ it := fun z => by
    rw [z, ho] at h1
    cases h1
    rw [hd] at d1
    injection d1 with d1
    rw [← d1] at c1
    cases c1
  refine wpAny_bind (wpAny_rule (wpAny_bind (wpAny_setField ho hd (by simp) ?_)))
  show wpAny _ _ ((newExc (.type "StopIteration") []) >>= fun v => _) _ _ _
  refine wpAny_bind ?_
  simp only [newExc, newTuple]
  refine wpAny_bind (wpAny_newObj_type ?_ (by size_fits))
  refine wpAny_bind (m := firstArgMember _ _) (wpAny_of_eq (a := Value.none) (by first | rfl | (simp only [firstArgMember] <;> rfl)) ?_)
  refine wpAny_newObj_type ?_ (by size_fits)
  have h1b : (s.heap.update it (Obj.mapFields (·.setIfInBounds 0 Value.none))).get? x1 = some o1 := by
    rw [Heap.get?_update_other _ _ (fun z => apart z.symm)]
    exact h1
  refine raiseNew_hot ⟨hh, o1, vs1, Heap.get?_push_of_some _ (Heap.get?_push_of_some _ h1b), d1, c1⟩ (Nat.ne_of_lt (Heap.lt_size (Heap.get?_push_of_some _ h1b)))
    (Heap.get?_push_size _ rfl) rfl (by first | (simp; done) | (simp; omega) | (simp only [Array.size_append]; simp; omega)) ?_
  refine wpAny_bind (wpAny_isInstance (T := "StopIteration") (b := true) ⟨_, (Heap.get?_update_self _ (Heap.get?_push_size _ rfl) rfl), rfl⟩ isSubtype_stop ?_)
  refine wpAny_pure (hQ _ fun b u nb e => ?_)
  have e1 : (s.heap.update it (Obj.mapFields (·.setIfInBounds 0 Value.none))).get? b = some u := by
    rw [Heap.get?_update_other _ _ (fun z => nb z.symm)]
    exact e
  rw [Heap.get?_update_other _ _ (fun z => Nat.lt_irrefl _ (show _ < _ by have := Heap.lt_size (Heap.get?_push_of_some { cls := Value.type "tuple", data := Data.seq #[] } e1); rw [← z] at this; exact this))]
  exact Heap.get?_push_of_some _ (Heap.get?_push_of_some _ e1)
theorem turn_tupleH {P : Program} {w : World} {K : PySem.W.Frag} {tg : Expr} (a it : Addr) : TurnH P w K tg (Itt K a) [it] it (fun i h => h.IsTupleIter it a i) where
  mem := List.mem_singleton.mpr rfl
  obj := fun i h ⟨o, e, c, d⟩ b hb => by
    rw [List.mem_singleton.mp hb]
    exact ⟨o, e, fun v z => by rw [d] at z; cases z⟩
  keep := fun i h h' st k => st.at fun o e => k it (List.mem_singleton.mpr rfl) o e
  item := by
    rintro X rfl rfl rfl hc i pins s σ H E I hf st ⟨xs, x, hq, hx⟩
    obtain ⟨its, rv, p, _⟩ := I.tuple hq
    obtain ⟨u, hu, ru⟩ := rv.get hx
    obtain ⟨f0, f1, f2, f3, f4, f5⟩ := hf it (List.mem_singleton.mpr rfl)
    have tp : s.heap.IsTuple a its.toArray := p
    refine wpAny_pyNext_tuple_item st tp (x := u) (by simpa using hu) fun h' st' sb => ?_
    have J : Inv X pins σ H { s with heap := h' } := I.turned (t' := s.toks) (fun b o hb e => (sb.2 b hb).trans e) f0 f1 f3 f4 f5
    obtain ⟨o, e, c, d⟩ := id st'
    refine ⟨u, rfl, go_of (s := { s with heap := h' }) e c d (by decide) ⟨x, H, J, ru, ⟨rfl, fun ys hy => ?_⟩, st', fun b hb => (hf b hb).1⟩⟩
    rw [I.tuple_inj hy hq]
    exact hx
  done := by
    rintro X rfl rfl rfl hc i pins s σ H E I hf st ⟨xs, hq, hx⟩
    obtain ⟨its, rv, p, _⟩ := I.tuple hq
    obtain ⟨f0, f1, f2, f3, f4, f5⟩ := hf it (List.mem_singleton.mpr rfl)
    have hl := rv.length
    obtain ⟨x1, hot⟩ := hc.at I
    have tp : s.heap.IsTuple a its.toArray := p
    exact next_tuple_end_hot hot st tp (by simp; omega) fun h' eb => ⟨rfl, I.turned (t' := s.toks) (fun b o hb e => eb b o hb e) f0 f1 f3 f4 f5⟩
  self := fun _ _ _ _ _ st h => wpAny_pyIter_tupleiter st h
theorem pi_tupH {X : Cx} {tg l : Expr} {tl : TE} (hl : PE X l tl) : PIH X tg l (iTup X.K tl) := by
  refine ⟨fun pins s σ H R I h => thn (hl.run pins s σ H _ I h) fun v s1 ⟨x, H1, I1, r1, a, e, ⟨xs, hq⟩, q⟩ => ?_⟩
  subst e
  cases r1
  obtain ⟨its, rv, p, _⟩ := I1.tuple hq
  have tp : s1.heap.IsTuple a its.toArray := p
  refine wpAny_pyIter_tuple tp ⟨s1.heap.objs.size, [s1.heap.objs.size], _, _, H1, rfl, I1.kept (t' := s1.toks) (fun b o e => Heap.get?_push_of_some _ e), turn_tupleH a _, ⟨_, Heap.get?_push_size _ rfl, rfl, rfl⟩, fun b hb => ?_, q⟩
  rw [List.mem_singleton.mp hb]
  exact I1.fpOk (Nat.le_refl _) (I1.hok.fresh (Nat.le_refl _))
end Mz

set_option Elab.async false
set_option linter.all false
set_option maxRecDepth 100000
set_option maxHeartbeats 4000000
/-! the order of words: (len(u), u) < (len(v), v) -/
namespace Mz
open PySem PySem.Spec PyProof.Rows L2
def rLtD (K : PySem.W.Frag) : R2 := fun x y H Q => ∃ d e, Dp K H x d ∧ Dp K H y e ∧ W.alike d e = true ∧ d ≠ .none ∧ min d.depth e.depth ≤ 64 ∧ Q (.bl (W.dataLt d e)) H
theorem op_ltD {X : Cx} (hu : X.A.units + 64 < cLine) : OpR X (compareOp .Lt) (rLtD X.K) := by
  rintro pins s σ H x y v u Q I rx ry ⟨d, e, hd, he, al, hn, dep, q⟩
  obtain ⟨as, r1⟩ := Dp.reads I d x v hd rx
  obtain ⟨bs, r2⟩ := Dp.reads I e y u he ry
  exact W.rcLt_alike d e X.A s v u as bs r1 r2 al hn (by omega) X.prog X.w _ _ ⟨.bl _, H, I, rfl, q⟩
def wordD (ns : List Int) : PyData := .tuple [.int ns.length, .list (ns.map PyData.int)]
theorem alike_ints : ∀ ns ms : List Int, W.alikeAll (ns.map PyData.int) (ms.map PyData.int) = true
  | [], _ => by simp [W.alikeAll]
  | _ :: _, [] => by simp [W.alikeAll]
  | n :: ns, m :: ms => by
    simp only [List.map_cons, W.alikeAll, W.alike, Bool.true_and]
    exact alike_ints ns ms
theorem alike_word (ns ms : List Int) : W.alike (wordD ns) (wordD ms) = true := by
  simp only [wordD, W.alike, W.alikeAll, alike_ints, Bool.and_true]
theorem dp_ints {K : PySem.W.Frag} {H : Hp} : ∀ ns : List Int, DpAll K H (ns.map V.int) (ns.map PyData.int)
  | [] => .nil
  | n :: ns => .cons (.int n) (dp_ints ns)
end Mz
namespace Mz
open PySem PySem.Spec PyProof.Rows L2
theorem depth_ints : ∀ ns : List Int, PyData.depthAll (ns.map PyData.int) ≤ 1
  | [] => by simp [PyData.depthAll]
  | n :: ns => by
    have := depth_ints ns
    simp [PyData.depthAll, PyData.depth]
    omega
theorem depth_word (ns ms : List Int) : min (wordD ns).depth (wordD ms).depth ≤ 64 := by
  have h := depth_ints ns
  have e : (wordD ns).depth ≤ 5 := by
    simp [wordD, PyData.depth, PyData.depthAll]
    omega
  omega
/-- u comes before v -/
def wordLt (u v : List Int) : Bool := if u.length = v.length then HT.lexLt u v else decide (u.length < v.length)
theorem lex_eq {x : Int ⊕ List Nat} {r t : List (Int ⊕ List Nat)} : PyProof.Rows.lexLt itemOrd (x :: r) (x :: t) = PyProof.Rows.lexLt itemOrd r t := PySem.W.lex_pre [x] r t
theorem lex_self (l : List (Int ⊕ List Nat)) : PyProof.Rows.lexLt itemOrd l l = false := by
  have := PySem.W.lex_pre l [] []
  rw [List.append_nil] at this
  rw [this]
  rfl
theorem lex_ints : ∀ (ns ms : List Int) (l : List (Int ⊕ List Nat)), ns.length = ms.length → PyProof.Rows.lexLt itemOrd (PySem.W.keyToksAll (ns.map PyData.int) ++ l) (PySem.W.keyToksAll (ms.map PyData.int) ++ l) = HT.lexLt ns ms
  | [], [], l, _ => by
    rw [lex_self]
    rfl
  | [], _ :: _, _, h => by simp at h
  | _ :: _, [], _, h => by simp at h
  | n :: ns, m :: ms, l, h => by
    have ih := lex_ints ns ms l (by simpa using h)
    rw [List.map_cons, List.map_cons, PySem.W.toks_all_cons, PySem.W.toks_all_cons]
    simp only [PySem.W.keyToks, List.cons_append, List.nil_append]
    rw [lex_eq, HT.lexLt_cons]
    by_cases e : n = m
    · subst e
      rw [lex_eq, ih, if_pos rfl]
    · rw [lex_diff (by simpa using e), if_neg e]
      rfl
theorem dataLt_word (ns ms : List Int) : PySem.W.dataLt (wordD ns) (wordD ms) = wordLt ns ms := by
  unfold PySem.W.dataLt wordD wordLt
  simp only [PySem.W.keyToks, PySem.W.keyToksAll, List.cons_append, List.nil_append]
  rw [lex_eq]
  by_cases e : ns.length = ms.length
  · rw [if_pos e, e, lex_eq, lex_eq]
    exact lex_ints ns ms _ e
  · rw [if_neg e, lex_diff (by simpa using fun z => e (by omega))]
    show decide _ = decide _
    rw [decide_eq_decide]
    omega
end Mz

set_option Elab.async false
set_option linter.all false
set_option maxRecDepth 100000
set_option maxHeartbeats 4000000
/-! errors whose context is None; defs with a table of code objects; what stays beside a table -/
namespace Mz
open PySem PySem.Spec PyProof.Rows L2 L2H
theorem takesN {X : Cx} : L2N.Takes X (fun _ _ _ _ => False) := fun _ _ ⟨_, _, _, _, _, _, _, _, _, _, _, _, _, _, _, _, z⟩ => z.elim
theorem passN {X : Cx} : Passes (L2N.CX X.prog X.w) X E0 := fun _ _ _ _ _ _ _ ⟨_, _, _, _, _, _, _, _, _, _, _, _, z⟩ => z.elim
section
variable {X : Cx} {C : Addr} {bmB : List Value} {B newId initId : String}
/-- X(e, ..) for an own error class -/
theorem pmk_any {x : Str} {p pos : Pos} {e : Expr} {es : List Expr} {t : TA} (F : ExcBaseFacts B newId initId bmB) (q : PySem.W.excIn X.K C bmB newId = true) (gC : X.mg x = some (.ref C))
    (kC : PySem.W.keepIn X.K (.ref C) = true) (r : Raises X (.ref C)) (hg : Gl X x) (ha : PA X (e :: es) t) (hdb : (x == ("__debug__" : Str)) = false := by decide)
    (he : starEach (e :: es) X.env = (false, eval e X.env) :: starEach es X.env := by rfl) (hpl : (backTo pos (starEach es X.env)).any (·.1) = false := by rfl) :
    L2N.PMk X (.Call (.Name x p) (e :: es) [] pos) (fun σ H Q => t σ H fun vs H1 => vs.length ≤ sizeLine ∧ Q (.ref C) none H1) := by
  intro pins s σ H Q I h
  refine wpAny_Call_Name_kw (ld_glob I hg gC (PySem.W.callWith_K (h₀ := X.base) I.ok.mod.kin kC (thn (ha.run pos pins s σ H _ I h) fun us s1 ⟨vs, H1, I1, r1, hz, q1⟩ => ⟨I1.kIn, ?_⟩) he hpl) hdb)
  show wpAny _ _ (call (.ref C) us) _ _ _
  obtain ⟨bm, N, nm, qn, bs, hdct, sn, sub, ab, col, dd, k0, k1, k2, k3, k5, mN, hC, hN, hni, T⟩ := exc_obj I1.kIn q
  exact wpAny_call_exc_subT F T hC hN hni (fun h' e hm => L2N.mk_of I1 hm r q1 (I1.hok.gone hm.new)) (by rw [← r1.length]; exact hz)
end
section
variable {P : Program} {w : World} {K : PySem.W.Frag} {mg : Str → Option Value} {base : Heap}
/-- a def that may raise -/
theorem okN {x qual : Str} {st : Stmt} {f : Addr} {fd : FuncData} {N ps : List Str} {k : Nat} {sp : Sp} (F : Fun K x qual st f fd) (S : FnScope N ps (defScope st)) (len : ∀ vs H Q E, sp vs H Q E → vs.length = ps.length)
    (hbody : ∀ (cdv : Value) (A : Around) (outer : List Env) (s : Shared) (H : Hp) (vs : List V) (Q : VK) (E : XK), Room k (A.deeper (envOfC qual (defScope st) s.heap.objs.size f cdv)) → sp vs H Q E →
      ∃ t, PSs (cxOf (L2N.CX P w) P w K mg base N qual (defScope st) f cdv A outer s H E) (defBody st) t ∧ t { nx := fun _ H' => Q .non H', rt := Q } (start N vs) H) : FnOk P w K mg base (L2N.CX P w) (k + 1) f fd ps sp := by
  obtain ⟨oc, od, kV, doc, pm, an, cdv, ct, osl, rfl, lk, hcd⟩ := F.ex
  exact fn_of lk hcd S len fun A outer s H vs Q E hr hsp => hbody cdv A outer s H vs Q E hr hsp
/-- a def whose code object is known -/
theorem okC {x qual : Str} {st : Stmt} {f : Addr} {fd : FuncData} {N ps : List Str} {k : Nat} {sp : Sp} (F : Fun K x qual st f fd) (S : FnScope N ps (defScope st)) (len : ∀ vs H Q E, sp vs H Q E → vs.length = ps.length)
    (hbody : ∀ (A : Around) (outer : List Env) (s : Shared) (H : Hp) (vs : List V) (Q : VK) (E : XK), Room k (A.deeper (envOfC qual (defScope st) s.heap.objs.size f fd.code)) → sp vs H Q E →
      ∃ t, PSs (cxOf CX0 P w K mg base N qual (defScope st) f fd.code A outer s H E).nox (defBody st) t ∧ t { nx := fun _ H' => Q .non H', rt := Q } (start N vs) H) : FnOk P w K mg base CX0 (k + 1) f fd ps sp := by
  obtain ⟨oc, od, kV, doc, pm, an, cdv, ct, osl, rfl, lk, hcd⟩ := F.ex
  refine fn_of lk hcd S len fun A outer s H vs Q E hr hsp => ?_
  obtain ⟨t, h, q⟩ := hbody A outer s H vs Q E hr hsp
  exact ⟨t, h.nox, q⟩
/-- a def called while an error is handled -/
theorem okH {x qual : Str} {st : Stmt} {f : Addr} {fd : FuncData} {N ps : List Str} {k : Nat} {sp : Sp} (F : Fun K x qual st f fd) (S : FnScope N ps (defScope st)) (len : ∀ vs H Q E, sp vs H Q E → vs.length = ps.length)
    (hbody : ∀ (cdv : Value) (A : Around) (outer : List Env) (s : Shared) (H : Hp) (vs : List V) (Q : VK) (E : XK) (p : Addr × Obj), Hot1 A p → RoomH k (A.deeper (envOfC qual (defScope st) s.heap.objs.size f cdv)) → sp vs H Q E →
      ∃ t, PSs (cxH CX0 P w K mg base N qual (defScope st) f cdv A outer s H E p) (defBody st) t ∧ t { nx := fun _ H' => Q .non H', rt := Q } (start N vs) H) : FnH P w K mg base CX0 (k + 1) f fd ps sp := by
  obtain ⟨oc, od, kV, doc, pm, an, cdv, ct, osl, rfl, lk, hcd⟩ := F.ex
  exact fn_ofH lk hcd S len fun A outer s H vs Q E p hot hr hsp => hbody cdv A outer s H vs Q E p hot hr hsp
end
theorem hot_suite {X : Cx} {a : Addr} {oe : Obj} {pn : List (Addr × Obj)} {cls : Value} {d : Option Addr} (hz : L2N.Zn cls d oe) (hf : ∃ vs, oe.data = .fields vs) : HotC (X.suite a ((a, oe) :: pn)) := by
  obtain ⟨vs, e⟩ := hf
  exact ⟨(a, oe), ⟨rfl, vs, e, hz.2.2 vs e⟩, List.mem_cons_self⟩
/-! ### what stays as it was, but for the table at P -/
structure Kp (P : Addr) (H H' : Hp) : Prop where
  tab : GxR.TabG H' P
  keep : ∀ b o, b ≠ P → H b = some o → H' b = some o
theorem tab_ne {H : Hp} {P b : Addr} {o : HO} (t : GxR.TabG H P) (e : H b = some o) (h : ∀ ps, o ≠ .tbl ps) : b ≠ P := fun z => by
  obtain ⟨ps, hP, _⟩ := t
  rw [z, hP] at e
  exact h ps (Option.some.inj e).symm
theorem Kp.of {P : Addr} {H H' : Hp} (t : GxR.TabG H P) (s : Same H H') : Kp P H H' := by
  obtain ⟨ps, hP, ht⟩ := t
  exact ⟨⟨ps, s _ _ hP, ht⟩, fun b o _ e => s b o e⟩
theorem Kp.refl {P : Addr} {H : Hp} (t : GxR.TabG H P) : Kp P H H := ⟨t, fun _ _ _ e => e⟩
theorem Kp.trans {P : Addr} {H H1 H2 : Hp} (a : Kp P H H1) (b : Kp P H1 H2) : Kp P H H2 := ⟨b.tab, fun c o n e => b.keep c o n (a.keep c o n e)⟩
theorem Kp.andS {P : Addr} {H H1 H2 : Hp} (a : Kp P H H1) (b : Same H1 H2) : Kp P H H2 := a.trans (.of a.tab b)
theorem Kp.ofTabbed {P : Addr} {H H' : Hp} (t : GxR.Tabbed P H H') : Kp P H H' := ⟨t.1, fun b o n e => by rw [t.2 b n]; exact e⟩
theorem Kp.free {P : Addr} {H H' : Hp} (k : Kp P H H') {b : Addr} (e : H' b = none) : H b = none := by
  cases q : H b with
  | none => rfl
  | some o =>
    have n : b ≠ P := fun z => by
      obtain ⟨ps, hP, _⟩ := k.tab
      rw [z, hP] at e
      cases e
    rw [k.keep b o n q] at e
    cases e
theorem Kp.seq {P : Addr} {H H' : Hp} {K : PySem.W.Frag} {a : Addr} {xs : List V} (t : GxR.TabG H P) (k : Kp P H H') (h : SqL K H a xs) : SqL K H' a xs := by
  rcases h with (h | ⟨o, h⟩) | h
  · exact .inl (.inl (k.keep _ _ (tab_ne t h (fun ps z => by cases z)) h))
  · exact .inl (.inr ⟨o, k.keep _ _ (tab_ne t h (fun ps z => by cases z)) h⟩)
  · exact .inr h
theorem Kp.tup {P : Addr} {H H' : Hp} {a : Addr} {xs : List V} (t : GxR.TabG H P) (k : Kp P H H') (h : H a = some (.tup xs)) : H' a = some (.tup xs) := k.keep _ _ (tab_ne t h (fun ps z => by cases z)) h
theorem Kp.lst {P : Addr} {H H' : Hp} {a : Addr} {xs : List V} (t : GxR.TabG H P) (k : Kp P H H') (h : H a = some (.lst xs)) : H' a = some (.lst xs) := k.keep _ _ (tab_ne t h (fun ps z => by cases z)) h
theorem Kp.mat {P : Addr} {H H' : Hp} {m mv ou : Addr} {M : Mach} {rs : List Addr} (t : GxR.TabG H P) (k : Kp P H H') (h : MAt H m M mv ou rs) : MAt H' m M mv ou rs :=
  ⟨k.tup t h.top, k.tup t h.mv, k.tup t h.ou, h.len, fun i r w a b => k.tup t (h.row i r w a b)⟩
theorem Kp.ma {P : Addr} {H H' : Hp} {m : Addr} {M : Mach} (t : GxR.TabG H P) (k : Kp P H H') (h : MA H m M) : MA H' m M := by
  obtain ⟨mv, ou, rs, h⟩ := h
  exact ⟨mv, ou, rs, k.mat t h⟩
/-- a list or a tuple of ints -/
def Ints (K : PySem.W.Frag) (H : Hp) (a : Addr) (ns : List Int) : Prop := SqL K H a (ns.map V.int) ∨ SqT K H a (ns.map V.int)
def belowB (ns : List Int) (L : Int) : Bool := ns.all fun n => decide (0 ≤ n) && decide (n < L)
theorem below_iff {ns : List Int} {L : Int} : belowB ns L = true ↔ Lt L ns := by
  unfold belowB Lt
  rw [List.all_eq_true]
  constructor
  · intro h z hz
    have := h z hz
    simpa using this
  · intro h z hz
    simpa using h z hz
end Mz
namespace Mz
open PySem PySem.Spec PyProof.Rows L2
/-! ### f'..': its length, part by part -/
theorem js_str {z : Str} {ts : List TE} {acc : Str} {σ : L2.St} {H : Hp} {Q : Str → Hp → Prop} {n : Nat} (ha : acc.length ≤ n) (hz : z.length ≤ 100) (hn : n ≤ 1000000) (k : (acc ++ z).length ≤ n + 100 → tJs ts (acc ++ z) σ H Q) :
    tJs (tC (.str z) :: ts) acc σ H Q := by
  have e : (acc ++ z).length ≤ n + 100 := by
    rw [PySem.Str.length_append]
    omega
  refine ⟨z, rfl, ?_, k e⟩
  rw [sizeLine_eq]
  omega
theorem js_int {te : TE} {ts : List TE} {acc : Str} {σ : L2.St} {H : Hp} {Q : Str → Hp → Prop} {n : Nat} (ha : acc.length ≤ n) (hn : n ≤ 1000000)
    (k : te σ H fun x H1 => ∃ i : Int, x = .int i ∧ i.natAbs.log2 < 1920 ∧ ((acc ++ Str.ofString (toString i)).length ≤ n + 1921 → tJs ts (acc ++ Str.ofString (toString i)) σ H1 Q)) (mono : ∀ {Q1 Q2 : VK}, (∀ x H1, Q1 x H1 → Q2 x H1) → te σ H Q1 → te σ H Q2) :
    tJs (tFmt te :: ts) acc σ H Q := by
  refine mono (fun x H1 ⟨i, e, hi, q⟩ => ?_) k
  have l := int_text_len_1921 hi
  have e2 : (acc ++ Str.ofString (toString i)).length ≤ n + 1921 := by
    rw [PySem.Str.length_append]
    omega
  refine .inr ⟨i, e, hi, _, rfl, ?_, q e2⟩
  rw [sizeLine_eq]
  show (acc ++ Str.ofString (toString i)).length ≤ _
  omega
theorem log_small {i : Int} (h : i.natAbs < 2 ^ 64) : i.natAbs.log2 < 1920 := by
  by_cases h0 : i.natAbs = 0
  · rw [h0]
    decide
  · have := (Nat.log2_lt h0).mpr h
    omega
end Mz

set_option Elab.async false
set_option linter.all false
set_option maxRecDepth 100000
set_option maxHeartbeats 4000000
/-! isinstance: the error in hand against a builtin class; small facts of builtin classes -/
namespace Mz
open PySem PySem.Spec PyProof.Rows L2
def rIsXV (K : PySem.W.Frag) (a : Addr) (cls : Value) (d : Option Addr) : List V → Hp → VK → Prop := fun xs H Q =>
  ∃ (D : Addr) (c : V) (u : Value) (b : Bool), cls = .ref D ∧ d = none ∧ ExcC K D ∧ xs = [.ref a, c] ∧ ClsV c u ∧ PySem.W.kitOne K (.ref D) u = some b ∧ Q (.bl b) H
theorem call_isXV {X : Cx} {a : Addr} {cls : Value} {d : Option Addr} {oe : Obj} {pn : List (Addr × Obj)} (hz : Zc cls d oe) (hf : ∃ vs, oe.data = .fields vs) :
    CallR (X.suite a ((a, oe) :: pn)) (.builtin "isinstance") (rIsXV X.K a cls d) := by
  rintro pins s σ H xs us Q I r ⟨D, c, u, b, rfl, rfl, ec, rfl, k, hk, q⟩
  exact call_isE ec hz hf pins s σ H _ us Q I r ⟨c, u, b, rfl, fun w r => k.eq r, hk, q⟩
theorem kit_ty {K : PySem.W.Frag} {D : Addr} {n : String} {b : Bool} (h : PySem.W.subIn K (.ref D) (.type n) = some b) (hm : PySem.W.kitMeta n = true := by decide +kernel) : PySem.W.kitOne K (.ref D) (.type n) = some b := by
  unfold PySem.W.kitOne
  rw [if_neg (by exact fun z => nomatch (beq_iff_eq.mp z : Value.ref D = Value.type n))]
  show (if PySem.W.kitMeta n = true then PySem.W.subIn K (.ref D) (.type n) else none) = some b
  rw [if_pos hm]
  exact h
/-- isinstance of an int, a bool, a list -/
theorem kit_ints {K : PySem.W.Frag} : PySem.W.kitOne K (.type "int") (.type "int") = some true := if_pos (beq_self_eq_true _)
theorem kit_bools {K : PySem.W.Frag} : PySem.W.kitOne K (.type "bool") (.type "bool") = some true := if_pos (beq_self_eq_true _)
theorem kit_lists {K : PySem.W.Frag} : PySem.W.kitOne K (.type "list") (.type "list") = some true := if_pos (beq_self_eq_true _)
theorem kit_int_bool {K : PySem.W.Frag} : PySem.W.kitOne K (.type "int") (.type "bool") = some false := by
  unfold PySem.W.kitOne
  rw [if_neg (by decide)]
  show (if PySem.W.kitMeta "bool" = true then PySem.W.subIn K (.type "int") (.type "bool") else none) = some false
  rw [if_pos (by decide +kernel)]
  show (fastBuiltinMro "int").map (·.contains (Value.type "bool")) = some false
  decide +kernel
end Mz

set_option Elab.async false
set_option linter.all false
set_option maxRecDepth 100000
set_option maxHeartbeats 4000000
/-! a machine under change: a list of lists and a list, all new -/
namespace Mz
open PySem PySem.Spec PyProof.Rows L2
theorem ps_weak {X : Cx} {st : Stmt} {t t' : TS} (h : PS X st t) (k : ∀ D σ H, t' D σ H → t D σ H) : PS X st t' := ⟨fun pins s σ H D I q => h.run pins s σ H D I (k D σ H q)⟩
theorem blkOk_at {N N' : List Str} {sc sc' scope : Scope} {own : List (Str × Nat)} (h : BlkOk N sc scope own) (h1 : N = N') (h2 : sc = sc') : BlkOk N' sc' scope own := by
  subst h1 h2
  exact h
def rLof (K : PySem.W.Frag) : List V → Hp → VK → Prop := fun xs H Q => ∃ p ys, xs = [.ref p] ∧ (SqL K H p ys ∨ SqT K H p ys) ∧ ∀ l, H l = none → Q (.ref l) (upd H l (.lst ys))
theorem call_lof {X : Cx} : CallR X (.type "list") (rLof X.K) := call_list_of
def rTof (K : PySem.W.Frag) : List V → Hp → VK → Prop := fun xs H Q => ∃ p ys, xs = [.ref p] ∧ ((SqL K H p ys ∧ ∀ l, H l = none → Q (.ref l) (upd H l (.tup ys))) ∨ (SqT K H p ys ∧ Q (.ref p) H))
theorem call_tof {X : Cx} : CallR X (.type "tuple") (rTof X.K) := call_tuple_of
structure Mut (H H' : Hp) (mvl oul : Addr) (rs : List Addr) (os : List Int) : Prop where
  same : Same H H'
  fm : H mvl = none
  fo : H oul = none
  ne : mvl ≠ oul
  mv : H' mvl = some (.lst (rs.map V.ref))
  ou : H' oul = some (.lst (os.map V.int))
  row : ∀ r ∈ rs, H r = none ∧ r ≠ mvl ∧ r ≠ oul ∧ ∃ w : List Int, w.length ≤ 5 ∧ H' r = some (.lst (w.map V.int))
  rl : rs.length ≤ 31
  ol : os.length ≤ 31
section
variable {H H' H2 : Hp} {mvl oul : Addr} {rs : List Addr} {os : List Int}
theorem Mut.on (m : Mut H H' mvl oul rs os) (s : Same H' H2) : Mut H H2 mvl oul rs os :=
  ⟨m.same.trans s, m.fm, m.fo, m.ne, s _ _ m.mv, s _ _ m.ou, fun r hr => by
    obtain ⟨a, b, c, w, lw, e⟩ := m.row r hr
    exact ⟨a, b, c, w, lw, s _ _ e⟩, m.rl, m.ol⟩
theorem Mut.new (m : Mut H H' mvl oul rs os) {p : Addr} (hp : H' p = none) (o : HO) : Mut H (upd H' p o) mvl oul rs os := m.on (same_upd (Same.refl _) hp)
/-- a row's content -/
theorem Mut.setRow (m : Mut H H' mvl oul rs os) {r : Addr} (hr : r ∈ rs) {w : List Int} (lw : w.length ≤ 5) : Mut H (upd H' r (.lst (w.map V.int))) mvl oul rs os := by
  obtain ⟨a, b, c, _, _, _⟩ := m.row r hr
  refine ⟨same_set m.same a, m.fm, m.fo, m.ne, by rw [upd_ne b.symm]; exact m.mv, by rw [upd_ne c.symm]; exact m.ou, fun x hx => ?_, m.rl, m.ol⟩
  obtain ⟨a2, b2, c2, w2, l2, e2⟩ := m.row x hx
  refine ⟨a2, b2, c2, ?_⟩
  by_cases z : x = r
  · subst z
    exact ⟨w, lw, upd_same⟩
  · exact ⟨w2, l2, by rw [upd_ne z]; exact e2⟩
theorem Mut.setOut (m : Mut H H' mvl oul rs os) {os2 : List Int} (l : os2.length ≤ 31) : Mut H (upd H' oul (.lst (os2.map V.int))) mvl oul rs os2 := by
  refine ⟨same_set m.same m.fo, m.fm, m.fo, m.ne, by rw [upd_ne m.ne]; exact m.mv, upd_same, fun x hx => ?_, m.rl, l⟩
  obtain ⟨a2, b2, c2, w2, l2, e2⟩ := m.row x hx
  exact ⟨a2, b2, c2, w2, l2, by rw [upd_ne c2]; exact e2⟩
/-- the list of rows is another one -/
theorem Mut.setMv (m : Mut H H' mvl oul rs os) {rs2 : List Addr} (l : rs2.length ≤ 31) (hrs : ∀ r ∈ rs2, r ∈ rs ∨ (H r = none ∧ r ≠ mvl ∧ r ≠ oul ∧ ∃ w : List Int, w.length ≤ 5 ∧ H' r = some (.lst (w.map V.int)))) :
    Mut H (upd H' mvl (.lst (rs2.map V.ref))) mvl oul rs2 os := by
  refine ⟨same_set m.same m.fm, m.fm, m.fo, m.ne, upd_same, by rw [upd_ne m.ne.symm]; exact m.ou, fun x hx => ?_, l, m.ol⟩
  obtain ⟨a2, b2, c2, w2, l2, e2⟩ := (hrs x hx).elim (m.row x) id
  exact ⟨a2, b2, c2, w2, l2, by rw [upd_ne b2]; exact e2⟩
theorem ne_some {a b : Addr} {o : HO} (h : H' a = none) (e : H' b = some o) : b ≠ a := fun z => by
  rw [z, h] at e
  cases e
/-- a new list of outputs -/
theorem Mut.newOut (m : Mut H H' mvl oul rs os) {p : Addr} (hp : H' p = none) {os2 : List Int} (l : os2.length ≤ 31) : Mut H (upd H' p (.lst (os2.map V.int))) mvl p rs os2 := by
  have k := m.new hp (.lst (os2.map V.int))
  refine ⟨k.same, m.fm, m.same.free hp, ne_some hp m.mv, k.mv, upd_same, fun x hx => ?_, m.rl, l⟩
  obtain ⟨a2, b2, c2, w2, l2, e2⟩ := k.row x hx
  obtain ⟨_, _, _, w3, _, e3⟩ := m.row x hx
  exact ⟨a2, b2, ne_some hp e3, w2, l2, e2⟩
/-- a new list of rows -/
theorem Mut.newMv (m : Mut H H' mvl oul rs os) {p : Addr} (hp : H' p = none) {rs2 : List Addr} (l : rs2.length ≤ 31) (hrs : ∀ r ∈ rs2, r ∈ rs) : Mut H (upd H' p (.lst (rs2.map V.ref))) p oul rs2 os := by
  have k := m.new hp (.lst (rs2.map V.ref))
  refine ⟨k.same, m.same.free hp, m.fo, (ne_some hp m.ou).symm, upd_same, k.ou, fun x hx => ?_, l, m.ol⟩
  obtain ⟨a2, b2, c2, w2, l2, e2⟩ := k.row x (hrs x hx)
  obtain ⟨_, _, _, w3, _, e3⟩ := m.row x (hrs x hx)
  exact ⟨a2, ne_some hp e3, c2, w2, l2, e2⟩
end
end Mz

set_option Elab.async false
set_option linter.all false
set_option maxRecDepth 100000
set_option maxHeartbeats 4000000
/-! == and != of lists of ints -/
namespace Mz
open PySem PySem.Spec PyProof.Rows L2
theorem eqv_ints : ∀ ns ms : List Int, PyData.eqvAll (ns.map PyData.int) (ms.map PyData.int) = decide (ns = ms)
  | [], [] => by simp [PyData.eqvAll]
  | [], _ :: _ => by simp [PyData.eqvAll]
  | _ :: _, [] => by simp [PyData.eqvAll]
  | n :: ns, m :: ms => by
    rw [List.map_cons, List.map_cons, PyData.eqvAll, eqv_ints ns ms, PyData.eqv]
    by_cases h : n = m
    · subst h
      by_cases h2 : ns = ms <;> simp [h2]
    · simp [h]
theorem eqv_lists (ns ms : List Int) : PyData.eqv (.list (ns.map PyData.int)) (.list (ms.map PyData.int)) = decide (ns = ms) := by
  rw [PyData.eqv]
  exact eqv_ints ns ms
section
variable {K : PySem.W.Frag} {H : Hp} {a b : Addr} {ns ms : List Int} {Q : VK}
theorem eq_lists (h1 : SqL K H a (ns.map V.int)) (h2 : SqL K H b (ms.map V.int)) (q : Q (.bl (decide (ns = ms))) H) : rEqD K (.ref a) (.ref b) H Q :=
  ⟨_, _, .lst h1 (dp_ints ns), .lst h2 (dp_ints ms), PySem.W.shaped_ints ns, PySem.W.shaped_ints ms, by rw [eqv_lists]; exact q⟩
theorem ne_lists (h1 : SqL K H a (ns.map V.int)) (h2 : SqL K H b (ms.map V.int)) (q : Q (.bl (!decide (ns = ms))) H) : rNeD K (.ref a) (.ref b) H Q :=
  ⟨_, _, .lst h1 (dp_ints ns), .lst h2 (dp_ints ms), PySem.W.shaped_ints ns, PySem.W.shaped_ints ms, by rw [eqv_lists]; exact q⟩
end
end Mz

set_option Elab.async false
set_option linter.all false
set_option maxRecDepth 100000
set_option maxHeartbeats 4000000
/-! {k: v}, k a tuple -/
namespace Mz
open PySem PySem.Spec PyProof.Rows L2
def tDisp1T (tk tv : TE) : TE := fun σ H Q => ∀ p, H p = none → tk σ (upd H p (.dT [])) fun x H1 => tv σ H1 fun y H2 => ∃ (b : Addr) (k : List L2.Key), x = .ref b ∧ H2 b = some (.tup (k.map kV)) ∧ H2 p = some (.dT []) ∧ Q (.ref p) (upd H2 p (.dT [(k, y)]))
theorem pe_disp1T {X : Cx} {ke ve : Expr} {pos : Pos} {tk tv : TE} (hu : X.A.units + 1 < cLine) (hk : PE X ke tk) (hv : PE X ve tv) : PE X (.Dict [some ke] [ve] pos) (tDisp1T tk tv) := by
  refine ⟨fun pins s σ H Q I q => ?_⟩
  have hn := I.hok.fresh (Nat.le_refl s.heap.objs.size)
  have I1 := I.laid (a := s.heap.objs.size) (o := .dT []) (h' := s.heap.push { cls := .type "dict", data := .dict #[] }) (t' := s.toks) (fun _ _ q => Heap.get?_push_of_some _ q) (Nat.le_refl _) (dt_empty s.heap I.big)
  have hl : (pairTrees [some ke] [ve] X.env pos).length = 1 := pairTrees_length _ _ _ _ rfl rfl
  rw [arm_eval_Dict, zip_pairTrees [some ke] [ve] X.env pos rfl rfl, dictDisplay_pairs (pairTrees [some ke] [ve] X.env pos) (fun z => by rw [z] at hl; cases hl) (by omega)]
  refine wpAny_bind (wpAny_standAt (wpAny_bind (wpAny_subDictH (knd := tupleKind (mixKind X.prog X.w)) (Q := fun d s' => wpAny (model X.prog X.w) X.A (pure (Value.ref d)) (EP X pins σ Q) X.xe s') (show X.A.units < cLine by omega) (by omega) ?_)))
  refine pairTrees_cons_walk (thn (hk.run pins _ σ _ _ I1 (q _ hn)) fun u s1 ⟨x, H1, I2, rx, q1⟩ => thn (hv.run pins s1 σ H1 _ I2 q1) fun v s2 ⟨y, H2, I3, ry, b, k, ex, eb, ep, q2⟩ => ?_)
  subst ex
  obtain rfl : u = Value.ref b := rx
  obtain ⟨z, hd, xs, rel, dd⟩ := dt_of I3.hok ep
  cases rel
  refine pairTrees_nil_walk ⟨[(k, b, v)], ⟨rfl, rfl, key_of I3.hok eb, trivial⟩, dd, fun h' tk dd' hs => ?_⟩
  have e1 : storedAllH ([] : List (List L2.Key × Addr × Value)) [(k, b, v)] = [(k, b, v)] := rfl
  rw [e1] at dd'
  obtain ⟨o, es, ep2, hq, h2, h3, h4, _, h5⟩ := dd'
  refine wpAny_pure ⟨.ref s.heap.objs.size, _, d_write (t' := tk) (ob := .dT [(k, y)]) I3 (by rw [ep]; exact True.intro) hs ⟨o, hq⟩ ⟨?_, hd, [(k, b, v)], .cons ⟨rfl, ?_, ry⟩ .nil, o, es, ep2, hq, h2, h3, h4, h5⟩, rfl, q2⟩
  · rw [sizeLine_eq]
    show 1 ≤ _
    omega
  · have nb : b ≠ s.heap.objs.size := fun z => by
      rw [z, ep] at eb
      cases eb
    rw [upd_ne nb]
    exact eb
end Mz

set_option Elab.async false
set_option linter.all false
set_option maxRecDepth 100000
set_option maxHeartbeats 4000000
/-! words in their order as numbers; pairs of states; the first word that parts a pair -/
namespace Mz
open PySem PySem.Spec PyProof.Rows L2
/-- words of letters below 4, in their order -/
def code (w : List Int) : Nat := w.foldl (fun n a => 5 * n + a.toNat + 1) 0
theorem code_snoc (w : List Int) (a : Int) : code (w ++ [a]) = 5 * code w + a.toNat + 1 := by
  unfold code
  rw [List.foldl_append]
  rfl
theorem snoc_ind {α : Type} {P : List α → Prop} (h0 : P []) (hs : ∀ w a, P w → P (w ++ [a])) (w : List α) : P w := by
  have key : ∀ (n : Nat) (w : List α), w.length = n → P w := by
    intro n
    induction n with
    | zero => intro w e; rw [List.length_eq_zero_iff.mp e]; exact h0
    | succ n ih =>
      intro w e
      have ne : w ≠ [] := fun z => by rw [z] at e; cases e
      rw [← List.dropLast_concat_getLast ne]
      exact hs _ _ (ih _ (by rw [List.length_dropLast, e]; rfl))
  exact key _ w rfl
theorem code_inj {k : Int} (hk : k ≤ 4) : ∀ (u v : List Int), Lt k u → Lt k v → code u = code v → u = v := by
  intro u
  induction u using snoc_ind with
  | h0 =>
    intro v _ hv e
    induction v using snoc_ind with
    | h0 => rfl
    | hs v b _ =>
      rw [code_snoc] at e
      have : code ([] : List Int) = 0 := rfl
      omega
  | hs u a ih =>
    intro v hu hv e
    induction v using snoc_ind with
    | h0 =>
      rw [code_snoc] at e
      have : code ([] : List Int) = 0 := rfl
      omega
    | hs v b _ =>
      rw [code_snoc, code_snoc] at e
      have ha := hu a (by simp)
      have hb := hv b (by simp)
      have e1 : a = b := by omega
      subst e1
      rw [ih v (fun z hz => hu z (by simp [hz])) (fun z hz => hv z (by simp [hz])) (by omega)]
theorem code_cons (a : Int) : ∀ w : List Int, code (a :: w) = (a.toNat + 1) * 5 ^ w.length + code w := by
  intro w
  induction w using snoc_ind with
  | h0 =>
    show 5 * 0 + a.toNat + 1 = (a.toNat + 1) * 5 ^ 0 + 0
    omega
  | hs w b ih =>
    rw [← List.cons_append, code_snoc, code_snoc, ih, List.length_append, List.length_singleton, Nat.pow_succ]
    have e : (a.toNat + 1) * (5 ^ w.length * 5) = 5 * ((a.toNat + 1) * 5 ^ w.length) := by
      rw [← Nat.mul_assoc, Nat.mul_comm]
    rw [e]
    omega
theorem code_lt {k : Int} (hk : k ≤ 4) : ∀ {w : List Int}, Lt k w → code w < 5 ^ w.length := by
  intro w
  induction w using snoc_ind with
  | h0 => intro _; show 0 < 1; omega
  | hs w b ih =>
    intro h
    have i := ih fun z hz => h z (by simp [hz])
    have hb := h b (by simp)
    rw [code_snoc, List.length_append, List.length_singleton, Nat.pow_succ]
    omega
theorem code_ge : ∀ w : List Int, 5 ^ w.length ≤ 4 * code w + 1 := by
  intro w
  induction w using snoc_ind with
  | h0 => show 1 ≤ _; omega
  | hs w b ih =>
    rw [code_snoc, List.length_append, List.length_singleton, Nat.pow_succ]
    omega
/-- a shorter word comes first -/
theorem code_short {k : Int} (hk : k ≤ 4) {u v : List Int} (hu : Lt k u) (h : u.length < v.length) : code u < code v := by
  have h1 := code_lt hk hu
  have h2 := code_ge v
  have h3 : 5 ^ (u.length + 1) ≤ 5 ^ v.length := Nat.pow_le_pow_right (by decide) h
  rw [Nat.pow_succ] at h3
  omega
/-! ### pairs of states -/
abbrev Pr := Int × Int
section
variable (M N : Mach)
def stepP (p : Pr) (a : Int) : Pr := (M.next p.1 a, N.next p.2 a)
def runP (p : Pr) (w : List Int) : Pr := w.foldl (stepP M N) p
def Bad (p : Pr) : Prop := M.out p.1 ≠ N.out p.2
/-- both are states -/
def InP (p : Pr) : Prop := M.St p.1 ∧ N.St p.2
/-- machines of a kind -/
structure Kin : Prop where
  gm : Good M
  gn : Good N
  ls : M.ls = N.ls
/-- w is the first word that parts p -/
structure Part (p : Pr) (w : List Int) : Prop where
  lt : Lt M.ls w
  bad : Bad M N (runP M N p w)
  min : ∀ v, Lt M.ls v → Bad M N (runP M N p v) → code w ≤ code v
/-- no word parts p -/
def NoPart (p : Pr) : Prop := ∀ v, Lt M.ls v → ¬ Bad M N (runP M N p v)
end
section
variable {M N : Mach}
theorem runP_snoc (p : Pr) (w : List Int) (a : Int) : runP M N p (w ++ [a]) = stepP M N (runP M N p w) a := by
  unfold runP
  rw [List.foldl_append]
  rfl
theorem runP_cons (p : Pr) (w : List Int) (a : Int) : runP M N p (a :: w) = runP M N (stepP M N p a) w := rfl
theorem Kin.step (k : Kin M N) {p : Pr} (h : InP M N p) {a : Int} (h0 : 0 ≤ a) (h1 : a < M.ls) : InP M N (stepP M N p a) :=
  ⟨(k.gm.step h.1 h0 h1).1, (k.gn.step h.2 h0 (by rw [← k.ls]; exact h1)).1⟩
theorem Part.uniq (k : Kin M N) {p : Pr} {u v : List Int} (hu : Part M N p u) (hv : Part M N p v) : u = v :=
  code_inj k.gm.l4 u v hu.lt hv.lt (Nat.le_antisymm (hu.min v hv.lt hv.bad) (hv.min u hu.lt hu.bad))
theorem Part.not (k : Kin M N) {p : Pr} {u : List Int} (hu : Part M N p u) (hn : NoPart M N p) : False := hn u hu.lt hu.bad
theorem lt_snoc {k : Int} {w : List Int} {a : Int} : Lt k (w ++ [a]) ↔ Lt k w ∧ 0 ≤ a ∧ a < k := by
  constructor
  · intro h
    exact ⟨fun z hz => h z (by simp [hz]), h a (by simp)⟩
  · rintro ⟨h1, h2⟩ z hz
    rcases List.mem_append.mp hz with e | e
    · exact h1 z e
    · rw [List.mem_singleton.mp e]
      exact h2
/-! ### the search by widths -/
structure Nd where
  pr : Pr
  wd : List Int
  ta : Addr
  wa : Addr
/-- all places below pl are done, at pl the letters below a -/
structure Bfs (M N : Mach) (st : Pr) (L : List Nd) (pl a : Nat) : Prop where
  fst : ∃ n, L[0]? = some n ∧ n.pr = st ∧ n.wd = []
  inc : ∀ (i j : Nat) (x y : Nd), L[i]? = some x → L[j]? = some y → i < j → code x.wd < code y.wd
  run : ∀ x ∈ L, runP M N st x.wd = x.pr ∧ Lt M.ls x.wd ∧ InP M N x.pr
  done : ∀ (i b : Nat) (x : Nd), L[i]? = some x → (i < pl ∨ i = pl ∧ b < a) → (b : Int) < M.ls → ∃ y ∈ L, y.pr = stepP M N x.pr b ∧ code y.wd ≤ 5 * code x.wd + b + 1
  good : ∀ (i : Nat) (x : Nd), L[i]? = some x → (i < pl ∨ i = pl ∧ 0 < a) → ¬ Bad M N x.pr
  gen : ∀ (j : Nat) (y : Nd), L[j]? = some y → code y.wd = 0 ∨ ∃ (i b : Nat) (x : Nd), L[i]? = some x ∧ (i < pl ∨ i = pl ∧ b < a) ∧ (b : Int) < M.ls ∧ code y.wd = 5 * code x.wd + b + 1
  nod : (L.map (·.pr)).Nodup
  len : ∀ x ∈ L, x.wd.length ≤ L.length
theorem Bfs.here {st : Pr} {L : List Nd} {pl a : Nat} (B : Bfs M N st L pl a) {i : Nat} {x : Nd} (h : L[i]? = some x) : x ∈ L := List.mem_of_getElem? h
theorem Bfs.start (k : Kin M N) {st : Pr} (h : InP M N st) {t w : Addr} : Bfs M N st [⟨st, [], t, w⟩] 0 0 where
  fst := ⟨_, rfl, rfl, rfl⟩
  inc := fun i j x y hi hj lt => by
    have h1 := (List.getElem?_eq_some_iff.mp hj).1
    simp at h1
    omega
  run := fun x hx => by
    rw [List.mem_singleton.mp hx]
    exact ⟨rfl, fun z hz => absurd hz (by simp), h⟩
  done := fun i b x _ o => by
    rcases o with o | o
    · exact absurd o (Nat.not_lt_zero _)
    · exact absurd o.2 (Nat.not_lt_zero _)
  good := fun i x _ o => by
    rcases o with o | o
    · exact absurd o (Nat.not_lt_zero _)
    · exact absurd o.2 (Nat.not_lt_zero _)
  gen := fun j y hy => by
    rw [List.mem_singleton.mp (List.mem_of_getElem? hy)]
    exact .inl rfl
  nod := by simp
  len := fun x hx => by
    rw [List.mem_singleton.mp hx]
    exact Nat.zero_le _
/-- each word is led by a done place, or not before the place -/
theorem Bfs.claim (k : Kin M N) {st : Pr} {L : List Nd} {pl : Nat} (B : Bfs M N st L pl 0) : ∀ v : List Int, Lt M.ls v →
    (∃ (i : Nat) (x : Nd), L[i]? = some x ∧ i < pl ∧ x.pr = runP M N st v ∧ code x.wd ≤ code v) ∨ ∃ (i : Nat) (x : Nd), L[i]? = some x ∧ pl ≤ i ∧ code x.wd ≤ code v := by
  intro v
  induction v using snoc_ind with
  | h0 =>
    intro _
    obtain ⟨n, e, e1, e2⟩ := B.fst
    by_cases h : 0 < pl
    · exact .inl ⟨0, n, e, h, e1, by rw [e2]; exact Nat.le_refl _⟩
    · exact .inr ⟨0, n, e, by omega, by rw [e2]; exact Nat.le_refl _⟩
  | hs v a ih =>
    intro hv
    obtain ⟨hv1, a0, a1⟩ := lt_snoc.mp hv
    rw [code_snoc]
    rcases ih hv1 with ⟨i, x, e, lt, e1, e2⟩ | ⟨i, x, e, le, e2⟩
    · obtain ⟨y, hy, y1, y2⟩ := B.done i a.toNat x e (.inl lt) (by omega)
      obtain ⟨j, hj, ej⟩ := List.getElem_of_mem hy
      have hj2 : L[j]? = some y := by rw [List.getElem?_eq_getElem hj, ej]
      have ea : ((a.toNat : Nat) : Int) = a := by omega
      by_cases h : j < pl
      · exact .inl ⟨j, y, hj2, h, by rw [runP_snoc, ← e1, y1, ea], by omega⟩
      · exact .inr ⟨j, y, hj2, by omega, by omega⟩
    · exact .inr ⟨i, x, e, le, by omega⟩
theorem Bfs.found (k : Kin M N) {st : Pr} {L : List Nd} {pl : Nat} (B : Bfs M N st L pl 0) {x : Nd} (hx : L[pl]? = some x) (hb : Bad M N x.pr) : Part M N st x.wd where
  lt := (B.run x (B.here hx)).2.1
  bad := by
    rw [(B.run x (B.here hx)).1]
    exact hb
  min := fun v hv hb2 => by
    rcases B.claim k v hv with ⟨i, y, e, lt, e1, e2⟩ | ⟨i, y, e, le, e2⟩
    · rw [← e1] at hb2
      exact absurd hb2 (B.good i y e (.inl lt))
    · by_cases h : pl = i
      · subst h
        rw [hx] at e
        cases e
        exact e2
      · have := B.inc pl i x y hx e (by omega)
        omega
theorem Bfs.none (k : Kin M N) {st : Pr} {L : List Nd} (B : Bfs M N st L L.length 0) : NoPart M N st := fun v hv hb => by
  rcases B.claim k v hv with ⟨i, y, e, lt, e1, e2⟩ | ⟨i, y, e, le, e2⟩
  · rw [← e1] at hb
    exact B.good i y e (.inl lt) hb
  · have := (List.getElem?_eq_some_iff.mp e).1
    omega
theorem Bfs.enter {st : Pr} {L : List Nd} {pl : Nat} (B : Bfs M N st L pl 0) {x : Nd} (hx : L[pl]? = some x) (hb : ¬ Bad M N x.pr) : True := trivial
/-- the letter's pair is there -/
theorem Bfs.old (k : Kin M N) {st : Pr} {L : List Nd} {pl a : Nat} (B : Bfs M N st L pl a) {x : Nd} (hx : L[pl]? = some x) (hb : ¬ Bad M N x.pr) (ha : (a : Int) < M.ls) {y : Nd} (hy : y ∈ L) (e : y.pr = stepP M N x.pr a) : Bfs M N st L pl (a + 1) where
  fst := B.fst
  inc := B.inc
  run := B.run
  done := fun i b z hz o hb2 => by
    rcases o with o | ⟨o1, o2⟩
    · exact B.done i b z hz (.inl o) hb2
    · by_cases h : b = a
      · subst h o1
        rw [hx] at hz
        cases hz
        refine ⟨y, hy, e, ?_⟩
        obtain ⟨j, hj, ej⟩ := List.getElem_of_mem hy
        have hj2 : L[j]? = some y := by rw [List.getElem?_eq_getElem hj, ej]
        rcases B.gen j y hj2 with q | ⟨i2, b2, x2, q1, q2, q3, q4⟩
        · omega
        · rcases q2 with q2 | ⟨q2, q5⟩
          · have := B.inc i2 i x2 x q1 hx q2
            have := k.gm.l4
            omega
          · subst q2
            rw [hx] at q1
            cases q1
            omega
      · exact B.done i b z hz (.inr ⟨o1, by omega⟩) hb2
  good := fun i z hz o => by
    rcases o with o | ⟨o1, o2⟩
    · exact B.good i z hz (.inl o)
    · subst o1
      rw [hx] at hz
      cases hz
      exact hb
  gen := fun j z hz => by
    rcases B.gen j z hz with q | ⟨i2, b2, x2, q1, q2, q3, q4⟩
    · exact .inl q
    · refine .inr ⟨i2, b2, x2, q1, ?_, q3, q4⟩
      rcases q2 with q2 | ⟨q2, q5⟩
      · exact .inl q2
      · exact .inr ⟨q2, by omega⟩
  nod := B.nod
  len := B.len
theorem get_app {α : Type} {l : List α} {z y : α} {i : Nat} (h : (l ++ [z])[i]? = some y) : l[i]? = some y ∨ (i = l.length ∧ y = z) := by
  by_cases c : i < l.length
  · rw [List.getElem?_append_left c] at h
    exact .inl h
  · have lt := (List.getElem?_eq_some_iff.mp h).1
    rw [List.length_append, List.length_singleton] at lt
    have e : i = l.length := by omega
    subst e
    rw [List.getElem?_append_right (Nat.le_refl _), Nat.sub_self] at h
    cases h
    exact .inr ⟨rfl, rfl⟩
theorem get_app1 {α : Type} {l : List α} {z y : α} {i : Nat} (h : l[i]? = some y) : (l ++ [z])[i]? = some y := by
  rw [List.getElem?_append_left (List.getElem?_eq_some_iff.mp h).1]
  exact h
/-- the letter's pair is new -/
theorem Bfs.push (k : Kin M N) {st : Pr} {L : List Nd} {pl a : Nat} (B : Bfs M N st L pl a) {x : Nd} (hx : L[pl]? = some x) (hb : ¬ Bad M N x.pr) (ha : (a : Int) < M.ls) {t w : Addr} (new : ∀ y ∈ L, y.pr ≠ stepP M N x.pr a) :
    Bfs M N st (L ++ [⟨stepP M N x.pr a, x.wd ++ [(a : Int)], t, w⟩]) pl (a + 1) := by
  have l4 := k.gm.l4
  have big : ∀ (j : Nat) (y : Nd), L[j]? = some y → code y.wd < 5 * code x.wd + a + 1 := fun j y hy => by
    rcases B.gen j y hy with q | ⟨i2, b2, x2, q1, q2, q3, q4⟩
    · omega
    · rcases q2 with q2 | ⟨q2, q5⟩
      · have := B.inc i2 pl x2 x q1 hx q2
        omega
      · subst q2
        rw [hx] at q1
        cases q1
        omega
  have cn : code (x.wd ++ [(a : Int)]) = 5 * code x.wd + a + 1 := by rw [code_snoc]; omega
  obtain ⟨r1, r2, r3⟩ := B.run x (B.here hx)
  refine ⟨?_, ?_, ?_, ?_, ?_, ?_, ?_, ?_⟩
  · obtain ⟨n, e, e2⟩ := B.fst
    exact ⟨n, get_app1 e, e2⟩
  · intro i j u v hu hv lt
    rcases get_app hv with hv | ⟨ev, rfl⟩
    · rcases get_app hu with hu | ⟨eu, rfl⟩
      · exact B.inc i j u v hu hv lt
      · have := (List.getElem?_eq_some_iff.mp hv).1
        omega
    · rcases get_app hu with hu | ⟨eu, rfl⟩
      · show code u.wd < code (x.wd ++ [(a : Int)])
        rw [cn]
        exact big i u hu
      · omega
  · intro y hy
    rcases List.mem_append.mp hy with e | e
    · exact B.run y e
    · rw [List.mem_singleton.mp e]
      exact ⟨by rw [runP_snoc, r1], lt_snoc.mpr ⟨r2, by omega, ha⟩, k.step r3 (by omega) ha⟩
  · intro i b z hz o hb2
    have old : ∀ {y : Nd}, L[i]? = some z → ((i < pl) ∨ (i = pl ∧ b < a)) → ∃ y ∈ L ++ [⟨stepP M N x.pr a, x.wd ++ [(a : Int)], t, w⟩], y.pr = stepP M N z.pr b ∧ code y.wd ≤ 5 * code z.wd + b + 1 := fun {y} h1 h2 => by
      obtain ⟨y, hy, q⟩ := B.done i b z h1 h2 hb2
      exact ⟨y, List.mem_append.mpr (.inl hy), q⟩
    have lt : i < L.length := by
      have := (List.getElem?_eq_some_iff.mp hx).1
      omega
    rcases get_app hz with h0 | ⟨ez, _⟩
    · rcases o with o | ⟨o1, o2⟩
      · exact old (y := x) h0 (.inl o)
      · by_cases h : b = a
        · subst h o1
          rw [hx] at h0
          cases h0
          exact ⟨_, List.mem_append.mpr (.inr List.mem_cons_self), rfl, by show code (x.wd ++ [(b : Int)]) ≤ _; rw [cn]; omega⟩
        · exact old (y := x) h0 (.inr ⟨o1, by omega⟩)
    · omega
  · intro i z hz o
    have lt : i < L.length := by
      have := (List.getElem?_eq_some_iff.mp hx).1
      omega
    rcases get_app hz with hz | ⟨ez, _⟩
    · rcases o with o | ⟨o1, o2⟩
      · exact B.good i z hz (.inl o)
      · subst o1
        rw [hx] at hz
        cases hz
        exact hb
    · omega
  · intro j z hz
    rcases get_app hz with hz | ⟨ez, rfl⟩
    · rcases B.gen j z hz with q | ⟨i2, b2, x2, q1, q2, q3, q4⟩
      · exact .inl q
      · refine .inr ⟨i2, b2, x2, get_app1 q1, ?_, q3, q4⟩
        rcases q2 with q2 | ⟨q2, q5⟩
        · exact .inl q2
        · exact .inr ⟨q2, by omega⟩
    · exact .inr ⟨pl, a, x, get_app1 hx, .inr ⟨rfl, by omega⟩, ha, by rw [cn]⟩
  · rw [List.map_append]
    refine List.nodup_append.mpr ⟨B.nod, by simp, fun p hp q hq => ?_⟩
    obtain ⟨y, hy, rfl⟩ := List.mem_map.mp hp
    simp at hq
    rw [hq]
    exact new y hy
  · intro y hy
    rw [List.length_append, List.length_singleton]
    rcases List.mem_append.mp hy with e | e
    · have := B.len y e
      omega
    · rw [List.mem_singleton.mp e]
      show (x.wd ++ [(a : Int)]).length ≤ _
      rw [List.length_append, List.length_singleton]
      have := B.len x (B.here hx)
      omega
/-- on to the next place -/
theorem Bfs.next (k : Kin M N) {st : Pr} {L : List Nd} {pl : Nat} {a : Nat} (B : Bfs M N st L pl a) (ha : M.ls = a) : Bfs M N st L (pl + 1) 0 where
  fst := B.fst
  inc := B.inc
  run := B.run
  done := fun i b z hz o hb2 => by
    rcases o with o | ⟨_, o2⟩
    · by_cases h : i = pl
      · exact B.done i b z hz (.inr ⟨h, by omega⟩) hb2
      · exact B.done i b z hz (.inl (by omega)) hb2
    · exact absurd o2 (Nat.not_lt_zero _)
  good := fun i z hz o => by
    rcases o with o | ⟨_, o2⟩
    · by_cases h : i = pl
      · exact B.good i z hz (.inr ⟨h, by have := k.gm.l1; omega⟩)
      · exact B.good i z hz (.inl (by omega))
    · exact absurd o2 (Nat.not_lt_zero _)
  gen := fun j z hz => by
    rcases B.gen j z hz with q | ⟨i2, b2, x2, q1, q2, q3, q4⟩
    · exact .inl q
    · exact .inr ⟨i2, b2, x2, q1, .inl (by rcases q2 with q2 | q2 <;> omega), q3, q4⟩
  nod := B.nod
  len := B.len
end
/-! ### few pairs -/
theorem nodup_few : ∀ (m : Nat) (l : List Nat), l.Nodup → (∀ x ∈ l, x < m) → l.length ≤ m
  | 0, [], _, _ => Nat.le_refl _
  | 0, x :: _, _, h => absurd (h x List.mem_cons_self) (Nat.not_lt_zero _)
  | m + 1, l, hn, h => by
    have ih := nodup_few m (l.erase m) (hn.erase m) fun x hx => by
      have h1 := (List.Nodup.mem_erase_iff hn).mp hx
      have h2 := h x h1.2
      have h3 := h1.1
      omega
    have e := List.length_erase (a := m) (l := l)
    split at e <;> omega
theorem Bfs.few {M N : Mach} {st : Pr} {L : List Nd} {pl a : Nat} (k : Kin M N) (B : Bfs M N st L pl a) : L.length ≤ 900 := by
  have h := nodup_few 900 (L.map fun x => x.pr.1.toNat * 30 + x.pr.2.toNat) ?_ ?_
  · rw [List.length_map] at h
    exact h
  · have e : L.map (fun x => x.pr.1.toNat * 30 + x.pr.2.toNat) = (L.map (·.pr)).map fun p : Pr => p.1.toNat * 30 + p.2.toNat := by
      rw [List.map_map]
      rfl
    rw [e]
    refine List.Pairwise.map _ ?_ (List.Pairwise.and_mem.mp B.nod)
    rintro p q ⟨hp, hq, n⟩ z
    obtain ⟨x, hx, rfl⟩ := List.mem_map.mp hp
    obtain ⟨y, hy, rfl⟩ := List.mem_map.mp hq
    have i1 := (B.run x hx).2.2
    have i2 := (B.run y hy).2.2
    have := k.gn.s30
    have a1 := i1.1.1
    have a2 := i1.2.1
    have a3 := i1.2.2
    have b1 := i2.1.1
    have b2 := i2.2.1
    have b3 := i2.2.2
    exact n (Prod.ext (by omega) (by omega))
  · intro v hv
    obtain ⟨x, hx, rfl⟩ := List.mem_map.mp hv
    have i1 := (B.run x hx).2.2
    have := k.gn.s30
    have := k.gm.s30
    have a1 := i1.1.1
    have a4 := i1.1.2
    have a2 := i1.2.1
    have a3 := i1.2.2
    show x.pr.1.toNat * 30 + x.pr.2.toNat < 900
    omega
end Mz
namespace Mz
theorem part_or {M N : Mach} {p : Pr} : (∃ u, Part M N p u) ∨ NoPart M N p := by
  by_cases h : NoPart M N p
  · exact .inr h
  · refine .inl ?_
    have key : ∀ n : Nat, (∃ v, Lt M.ls v ∧ Bad M N (runP M N p v) ∧ code v ≤ n) → ∃ u, Part M N p u := by
      intro n
      induction n with
      | zero =>
        rintro ⟨v, h1, h2, h3⟩
        exact ⟨v, h1, h2, fun u _ _ => by omega⟩
      | succ n ih =>
        rintro ⟨v, h1, h2, h3⟩
        by_cases c : ∃ u, Lt M.ls u ∧ Bad M N (runP M N p u) ∧ code u ≤ n
        · exact ih c
        · exact ⟨v, h1, h2, fun u a b => Nat.le_of_not_lt fun z => c ⟨u, a, b, by omega⟩⟩
    have : ∃ v, Lt M.ls v ∧ Bad M N (runP M N p v) := Classical.byContradiction fun z => h fun v a b => z ⟨v, a, b⟩
    obtain ⟨v, a, b⟩ := this
    exact key _ ⟨v, a, b, Nat.le_refl _⟩
end Mz

set_option Elab.async false
set_option linter.all false
set_option maxRecDepth 100000
set_option maxHeartbeats 4000000
/-! the search by widths in the heap -/
namespace Mz
open PySem PySem.Spec PyProof.Rows L2
def kP (p : Pr) : List L2.Key := [.inl p.1, .inl p.2]
theorem kP_inj {p q : Pr} (h : kP p = kP q) : p = q := by
  unfold kP at h
  injection h with h1 h2
  injection h2 with h2 _
  injection h1 with h1
  injection h2 with h2
  exact Prod.ext h1 h2
def dictOf (L : List Nd) : List (List L2.Key × V) := L.map fun n => (kP n.pr, V.ref n.wa)
theorem val_find (p : Pr) : ∀ L : List Nd, (∃ n ∈ L, n.pr = p ∧ valV (dictOf L) (kP p) = some (.ref n.wa)) ∨ (valV (dictOf L) (kP p) = none ∧ ∀ n ∈ L, n.pr ≠ p)
  | [] => .inr ⟨rfl, fun n hn => absurd hn (by simp)⟩
  | n :: L => by
    by_cases h : n.pr = p
    · exact .inl ⟨n, List.mem_cons_self, h, valV_pos (p := (kP n.pr, V.ref n.wa)) (by rw [h])⟩
    · have e : valV (dictOf (n :: L)) (kP p) = valV (dictOf L) (kP p) := valV_neg (p := (kP n.pr, V.ref n.wa)) fun z => h (kP_inj z)
      rcases val_find p L with ⟨m, hm, h1, h2⟩ | ⟨h1, h2⟩
      · exact .inl ⟨m, List.mem_cons_of_mem _ hm, h1, by rw [e]; exact h2⟩
      · refine .inr ⟨by rw [e]; exact h1, fun m hm => ?_⟩
        rcases List.mem_cons.mp hm with z | z
        · rw [z]
          exact h
        · exact h2 m z
theorem nodup_inj {α β : Type} {f : α → β} : ∀ {L : List α}, (L.map f).Nodup → ∀ {x y : α}, x ∈ L → y ∈ L → f x = f y → x = y
  | [], _, _, _, hx, _, _ => absurd hx (by simp)
  | a :: L, h, x, y, hx, hy, e => by
    rw [List.map_cons, List.nodup_cons] at h
    rcases List.mem_cons.mp hx with hx | hx
    · rcases List.mem_cons.mp hy with hy | hy
      · rw [hx, hy]
      · rw [hx] at e
        exact absurd (List.mem_map.mpr ⟨y, hy, e.symm⟩) h.1
    · rcases List.mem_cons.mp hy with hy | hy
      · rw [hy] at e
        exact absurd (List.mem_map.mpr ⟨x, hx, e⟩) h.1
      · exact nodup_inj h.2 hx hy e
structure HB (H0 H' : Hp) (d qa : Addr) (L : List Nd) : Prop where
  same : Same H0 H'
  fd : H0 d = none
  fq : H0 qa = none
  dd : H' d = some (.dT (dictOf L))
  qq : H' qa = some (.lst (L.map fun n => V.ref n.ta))
  tp : ∀ n ∈ L, H' n.ta = some (.tup [.int n.pr.1, .int n.pr.2])
  wl : ∀ n ∈ L, H' n.wa = some (.lst (n.wd.map V.int)) ∧ n.wa ≠ qa
  wf : ∀ n ∈ L, H0 n.wa = none
section
variable {H0 H' H2 : Hp} {d qa : Addr} {L : List Nd}
theorem HB.on (B : HB H0 H' d qa L) (s : Same H' H2) : HB H0 H2 d qa L :=
  ⟨B.same.trans s, B.fd, B.fq, s _ _ B.dd, s _ _ B.qq, fun n hn => s _ _ (B.tp n hn), fun n hn => ⟨s _ _ (B.wl n hn).1, (B.wl n hn).2⟩, B.wf⟩
theorem HB.new (B : HB H0 H' d qa L) {p : Addr} (hp : H' p = none) (o : HO) : HB H0 (upd H' p o) d qa L := B.on (same_upd (Same.refl _) hp)
/-- a pair with its word goes into the dict, then into the queue -/
theorem HB.push (B : HB H0 H' d qa L) {n : Nd} (ht : H' n.ta = some (.tup [.int n.pr.1, .int n.pr.2])) (hw : H' n.wa = some (.lst (n.wd.map V.int))) (nq : n.wa ≠ qa) (nf : H0 n.wa = none) :
    HB H0 (upd (upd H' d (.dT (dictOf L ++ [(kP n.pr, .ref n.wa)]))) qa (.lst (L.map (fun n => V.ref n.ta) ++ [.ref n.ta]))) d qa (L ++ [n]) := by
  have dq : d ≠ qa := fun z => by
    have h1 := B.dd
    rw [z, B.qq] at h1
    cases h1
  have kt : ∀ {b : Addr} {xs : List V}, H' b = some (.tup xs) → upd (upd H' d (.dT (dictOf L ++ [(kP n.pr, .ref n.wa)]))) qa (.lst (L.map (fun n => V.ref n.ta) ++ [.ref n.ta])) b = some (.tup xs) := fun {b xs} e => by
    have b1 : b ≠ d := fun z => by
      rw [z, B.dd] at e
      cases e
    have b2 : b ≠ qa := fun z => by
      rw [z, B.qq] at e
      cases e
    rw [upd_ne b2, upd_ne b1]
    exact e
  have kl : ∀ {b : Addr} {xs : List V}, H' b = some (.lst xs) → b ≠ qa → upd (upd H' d (.dT (dictOf L ++ [(kP n.pr, .ref n.wa)]))) qa (.lst (L.map (fun n => V.ref n.ta) ++ [.ref n.ta])) b = some (.lst xs) := fun {b xs} e b2 => by
    have b1 : b ≠ d := fun z => by
      rw [z, B.dd] at e
      cases e
    rw [upd_ne b2, upd_ne b1]
    exact e
  refine ⟨same_set (same_set B.same B.fd) B.fq, B.fd, B.fq, ?_, ?_, fun m hm => ?_, fun m hm => ?_, fun m hm => ?_⟩
  · rw [upd_ne dq, upd_same]
    unfold dictOf
    rw [List.map_append]
    rfl
  · rw [upd_same, List.map_append]
    rfl
  · rcases List.mem_append.mp hm with e | e
    · exact kt (B.tp m e)
    · rw [List.mem_singleton.mp e]
      exact kt ht
  · rcases List.mem_append.mp hm with e | e
    · exact ⟨kl (B.wl m e).1 (B.wl m e).2, (B.wl m e).2⟩
    · rw [List.mem_singleton.mp e]
      exact ⟨kl hw nq, nq⟩
  · rcases List.mem_append.mp hm with e | e
    · exact B.wf m e
    · rw [List.mem_singleton.mp e]
      exact nf
end
end Mz

set_option Elab.async false
set_option linter.all false
set_option maxRecDepth 100000
set_option maxHeartbeats 4000000
/-! small things: ifs, f-strings of small ints, places of lists -/
namespace Mz
open PySem PySem.Spec PyProof.Rows L2
theorem js_4 {t1 t2 : TE} {z1 z2 : Str} {i1 i2 : Int} {σ : L2.St} {H : Hp} {Q : Str → Hp → Prop} (h1 : ∀ {Q : VK}, Q (.int i1) H → t1 σ H Q) (h2 : ∀ {Q : VK}, Q (.int i2) H → t2 σ H Q) (b1 : i1.natAbs < 2 ^ 64) (b2 : i2.natAbs < 2 ^ 64) (l1 : z1.length ≤ 100) (l2 : z2.length ≤ 100)
    (k : ∀ out, Q out H) : tJs [tC (.str z1), tFmt t1, tC (.str z2), tFmt t2] Str.empty σ H Q := by
  have i1' := int_text_len_1921 (log_small b1)
  have i2' := int_text_len_1921 (log_small b2)
  refine ⟨z1, rfl, ?_, ?_⟩
  · rw [PySem.Str.length_append, sizeLine_eq]
    show 0 + z1.length ≤ _
    omega
  refine h1 (.inr ⟨i1, rfl, log_small b1, _, rfl, ?_, z2, rfl, ?_, ?_⟩)
  · rw [PySem.Str.length_append, PySem.Str.length_append, sizeLine_eq]
    show 0 + z1.length + _ ≤ _
    omega
  · rw [PySem.Str.length_append, PySem.Str.length_append, PySem.Str.length_append, sizeLine_eq]
    show 0 + z1.length + _ + _ ≤ _
    omega
  refine h2 (.inr ⟨i2, rfl, log_small b2, _, rfl, ?_, k _⟩)
  rw [PySem.Str.length_append, PySem.Str.length_append, PySem.Str.length_append, PySem.Str.length_append, sizeLine_eq]
  show 0 + z1.length + _ + _ + _ ≤ _
  omega
theorem js_2 {t1 : TE} {z1 : Str} {i1 : Int} {σ : L2.St} {H : Hp} {Q : Str → Hp → Prop} (h1 : ∀ {Q : VK}, Q (.int i1) H → t1 σ H Q) (b1 : i1.natAbs < 2 ^ 64) (l1 : z1.length ≤ 100)
    (k : ∀ out, Q out H) : tJs [tC (.str z1), tFmt t1] Str.empty σ H Q := by
  have i1' := int_text_len_1921 (log_small b1)
  refine ⟨z1, rfl, ?_, ?_⟩
  · rw [PySem.Str.length_append, sizeLine_eq]
    show 0 + z1.length ≤ _
    omega
  refine h1 (.inr ⟨i1, rfl, log_small b1, _, rfl, ?_, k _⟩)
  rw [PySem.Str.length_append, PySem.Str.length_append, sizeLine_eq]
  show 0 + z1.length + _ ≤ _
  omega
theorem iteN2 {c A B : Prop} [Decidable c] (h1 : ¬ c → A) (h2 : c → B) : if (!decide c) = true then A else B := by
  by_cases h : c
  · rw [if_neg (by simp [h])]
    exact h2 h
  · rw [if_pos (by simp [h])]
    exact h1 h
theorem iteB {b : Bool} {A B : Prop} (h1 : b = false → A) (h2 : b = true → B) : if (!b) = true then A else B := by
  cases b with
  | false => exact h1 rfl
  | true => exact h2 rfl
theorem iteT0 {A B : Prop} (h : A) : if (!false) = true then A else B := by
  exact h
theorem ixN_in {n : Nat} {k : Int} (h0 : 0 ≤ k) (h1 : k < n) : ixN n k = some k.toNat := by
  unfold ixN
  rw [if_pos h0, if_pos h1]
theorem lit_at {ns : List Int} {i : Int} (h0 : 0 ≤ i) (h1 : i < ns.length) : ∃ x ∈ ns, atI (ns.map V.int) i = some (.int x) := by
  have lt : i.toNat < ns.length := by omega
  exact ⟨ns[i.toNat], List.getElem_mem lt, atI_get? h0 (List.getElem?_eq_getElem lt)⟩
def tInv (I J : L2.St → Hp → Prop) : TS := fun D σ H => I σ H ∧ ∀ σ' H', J σ' H' → D.nx σ' H'
theorem cut_ints (ns : List Int) (lo hi : Option Int) : ∃ ms : List Int, cutV (ns.map V.int) lo hi = ms.map V.int ∧ ms.length ≤ ns.length := by
  refine ⟨(ns.drop (HT.sIx ns.length 0 lo)).take (HT.sIx ns.length ns.length hi - HT.sIx ns.length 0 lo), ?_, ?_⟩
  · unfold cutV
    rw [List.length_map, List.map_take, List.map_drop]
  · rw [List.length_take, List.length_drop]
    omega
end Mz

set_option Elab.async false
set_option linter.all false
set_option maxRecDepth 100000
set_option maxHeartbeats 4000000
/-! try: .. except A as e: .. except B: .. : the first handler with a name, the others without -/
namespace Mz
open PySem PySem.Spec PyProof.Rows L2 L2N
/-- what a suite's end says of the try -/
theorem suite_end {X : Cx} {pins : List (Addr × Obj)} {a : Addr} {oe : Obj} (o : X.Ok) {D : Ends} {fl : Flow} {t : Shared} (z : SP (X.suite a ((a, oe) :: (X.pn ++ pins))) [] D fl t) : SP X pins D fl t := by
  cases fl with
  | next => exact (let ⟨σ1, G1, J, q⟩ := z; ⟨σ1, G1, J.unsuite o, q⟩)
  | brk => exact (let ⟨σ1, G1, J, q⟩ := z; ⟨σ1, G1, J.unsuite o, q⟩)
  | cont => exact (let ⟨σ1, G1, J, q⟩ := z; ⟨σ1, G1, J.unsuite o, q⟩)
  | ret u => exact (let ⟨v, σ1, G1, J, r, q⟩ := z; ⟨v, σ1, G1, J.unsuite o, r, q⟩)
section
variable {X : Cx} {x n : Str} {c : Value} {i : Nat} {body suite : List Stmt} {b₀ : Stmt} {np pos pos' : Pos} {tb : WX → TS} {ts : Addr → Value → Option Addr → TS} {Wout : WX} {hds : List ExceptHandler} {l : List (Value × (Addr → Value → Option Addr → TS))}
theorem ps_try_as_many (stk : X.stack = X.env :: X.outer) (own : X.env.frame = some X.env.locals) (nod : X.N.Nodup) (slot : X.N[i]? = some n) (loc : X.env.kindOf n = some .local) (nm : Names X x c) (out : L2N.Takes X Wout)
    (hbody : ∀ (W : WX) (pn : List (Addr × Obj)) (xe : Value → Shared → Prop), L2N.Takes (X.tr pn xe) W → PassesOwn (model X.prog X.w) X.A X.env xe → PSs (X.tr pn xe) body (tb W))
    (hfirst : ∀ (a : Addr) (oe : Obj) (cls : Value) (d : Option Addr) (pn : List (Addr × Obj)), Zn cls d oe → (∃ vs, oe.data = .fields vs) → PSs (X.suite a ((a, oe) :: pn)) (b₀ :: suite) (ts a cls d))
    (rest : L2N.HdsOk X hds l) : PS X (.Try body (.ExceptHandler (some (.Name x np)) (some n) (b₀ :: suite) pos' :: hds) [] [] pos) (fun D σ H => tb (wAs X.K c i ts (wMany X.K Wout D l) D) D σ H) := by
  refine ⟨fun pins s0 σ0 H0 D I0 start => ?_⟩
  have ok := I0.ok
  have frm : X.A.frames = some (X.env :: X.outer) := ok.frames.trans (congrArg some stk)
  refine wpAny_Try_except (wpAny_mono ((hbody (wAs X.K c i ts (wMany X.K Wout D l) D) (X.pn ++ pins) (fun e t1 => wpAny (model X.prog X.w) X.A (noteFrame e X.env) (fun _ t2 => wpAny (model X.prog X.w) X.A (setFlight e none) (fun _ t3 =>
    wpAny (model X.prog X.w) X.A (handleBy e X.env (.ExceptHandler (some (.Name x np)) (some n) (b₀ :: suite) pos' :: hds)) (SP X pins D) X.xe t3) X.xe t2) X.xe t1) (fun u t caught => ?_) PassesOwn.looking).run [] s0 σ0 H0 D (I0.toTry _) start) (fun fl t z => ?_) (fun _ _ e => e))
  · obtain ⟨a, B, tI, pins1, σ1, G1, cls, d, rfl, J1, nb, up, inSky, free, os, ag, b, hit, yes, no⟩ := caught
    have J : Inv X pins σ1 G1 tI := J1.ofTry ok
    refine Sky.land Zn.steady frm own (by rw [← stk]; exact inSky) fun g down up2 => ?_
    have JL : Inv X pins σ1 G1 { t with heap := g } := J.landed nb down.1 (up.trans up2) os ag
    obtain ⟨oe, vs, at_, zn, dat⟩ := down.there
    have out1 : a ∉ frs (X.env :: X.outer) := fun hm => by
      obtain ⟨_, o2, e2, z2⟩ := down.2.2.1.mem hm
      rw [at_] at e2
      cases e2
      exact z2 _ dat
    have notL : a ≠ X.env.locals := fun z => out1 (List.mem_filterMap.mpr ⟨X.env, List.mem_cons_self, by rw [own, z]⟩)
    have notF : a ∉ X.fs := fun hm => (List.mem_filterMap.mp hm).elim fun e q => out1 (List.mem_filterMap.mpr ⟨e, List.mem_cons_of_mem _ q.1, q.2⟩)
    have JS := JL.suite at_ dat free notL notF
    have ask : ∀ {y : Str} {k : Value} {q : Pos} {R : Value → Shared → Prop} {E : Value → Shared → Prop}, Names X y k → R k { t with heap := g } → wpAny (model X.prog X.w) (X.A.mark (some (.ref a))) (eval (.Name y q) X.env) R E { t with heap := g } := fun {y k q R E} nk r => by
      obtain ⟨g1, g2, g3 | ⟨g3, g4, g5⟩⟩ := nk
      · exact ld_glob (X := X.suite a ((a, oe) :: (X.pn ++ pins))) JS g1 g3 r g2
      · exact ld_blt (X := X.suite a ((a, oe) :: (X.pn ++ pins))) JS g1 g3 g4 r g5 g2
    have kind : PySem.W.Looks (model X.prog X.w) g (typeOf (.ref a)) cls := fun _ _ _ _ kp r => wpAny_typeOf_ref (kp _ _ at_) (zn.1.symm ▸ r)
    -- the handlers behind the first
    have behind : ∀ {hs2 : List ExceptHandler} {l2 : List (Value × (Addr → Value → Option Addr → TS))}, L2N.HdsOk X hs2 l2 → wMany X.K Wout D l2 cls d σ1 G1 → wpAny (model X.prog X.w) X.A (handleBy (.ref a) X.env hs2) (SP X pins D) X.xe { t with heap := g } := by
      intro hs2 l2 hk
      induction hk with
      | nil =>
        intro w
        obtain ⟨_, _, _, oe1, vs1, T, oT, ts1, e1, _, e3, e4, _⟩ := id down
        refine wpAny_handleBy_nil ?_
        unfold PySem.passOn
        refine wpAny_bind (wpAny_field e1 e3 e4 ?_)
        rw [if_neg (by simp : ¬ ((Value.ref T == Value.none) = true))]
        have go : wpAny (model X.prog X.w) X.A (setFlight (.ref a) X.env.frame) (fun _ t4 => wpAny (model X.prog X.w) X.A (throw (.ref a) : Sem Flow) (SP X pins D) X.xe t4) X.xe { t with heap := g } := by
          rw [own]
          exact HandSPX.setFlight_upZ down fun g4 sky4 up4 => wpAny_throw (out _ _ ⟨a, B, tI, pins, σ1, G1, cls, d, rfl, J, nb, (up.trans up2).trans up4, .inr (.inr (by rw [stk]; exact sky4)), free, os, ag, w⟩)
        first
          | exact wpAny_bind (wpAny_pure (wpAny_bind go))
          | exact wpAny_bind go
      | @cons y k ts2 b2 suite2 np2 pos2 hs3 l3 nk hs r ih =>
        rintro ⟨b2, hit2, yes2, no2⟩
        refine wpAny_handleBy_cons (codeAny_handlers_test (ask nk ((PySem.W.exm_one (M := model X.prog X.w) JL.kIn kind hit2).here ?_))) (by intro q; cases q)
        cases b2 with
        | false =>
          show wpAny _ X.A (handleBy (.ref a) X.env hs3) _ _ _
          exact ih (no2 rfl)
        | true =>
          refine codeAny_handlers_suite (HandSPX.lands_againZ down fun g4 down4 up4 => ?_)
          obtain ⟨oe4, vs4, at4, zn4, dat4⟩ := down4.there
          have J4 : Inv X pins σ1 G1 { t with heap := g4 } := J.landed nb down4.1 ((up.trans up2).trans up4) os ag
          exact wpAny_mono ((hs a oe4 cls d (X.pn ++ pins) zn4 ⟨_, dat4⟩).run [] _ _ G1 _ (J4.suite at4 dat4 free notL notF) (yes2 rfl a free)) (fun fl t6 z => suite_end ok z) fun _ _ z => z.elim
    refine wpAny_handleBy_cons (codeAny_handlers_test (ask nm ((PySem.W.exm_one (M := model X.prog X.w) JL.kIn kind hit).here ?_))) (by intro q; cases q)
    cases b with
    | false =>
      show wpAny _ X.A (handleBy (.ref a) X.env hds) _ _ _
      exact behind rest (no rfl)
    | true =>
      refine codeAny_handlers_suite_as (HandSPX.lands_againZ down fun g4 down4 up4 => ?_)
      obtain ⟨oe4, vs4, at4, zn4, dat4⟩ := down4.there
      have J4 : Inv X pins σ1 G1 { t with heap := g4 } := J.landed nb down4.1 ((up.trans up2).trans up4) os ag
      refine store_ok (X := X.suite a ((a, oe4) :: (X.pn ++ pins))) (v := .ref a) (J4.suite at4 dat4 free notL notF) nod slot (.inl loc) rfl (fun t5 J5 => ?_) (.inr loc)
      refine wpAny_mono ((hfirst a oe4 cls d (X.pn ++ pins) zn4 ⟨_, dat4⟩).run [] t5 _ G1 _ J5 (yes rfl a free)) (fun fl t6 z => ?_) fun _ _ z => z.elim
      have unbind : ∀ {σ6 : L2.St} {G6 : Hp} {R : Shared → Prop}, Inv (X.suite a ((a, oe4) :: (X.pn ++ pins))) [] σ6 G6 t6 → (∀ t7, Inv X pins (σ6.set i none) G6 t7 → R t7) → wpAny (model X.prog X.w) X.A (do bindName X.env n .none; unbindBehindTheSuite X.env n pos') (fun _ t7 => R t7) X.xe t6 :=
        fun J6 r => gone_ok (J6.unsuite ok) nod slot loc r
      cases fl with
      | next => exact (let ⟨σ6, G6, J6, q⟩ := z; unbind J6 fun t7 J7 => ⟨_, _, J7, q⟩)
      | brk => exact (let ⟨σ6, G6, J6, q⟩ := z; unbind J6 fun t7 J7 => ⟨_, _, J7, q⟩)
      | cont => exact (let ⟨σ6, G6, J6, q⟩ := z; unbind J6 fun t7 J7 => ⟨_, _, J7, q⟩)
      | ret u => exact (let ⟨v, σ6, G6, J6, r, q⟩ := z; unbind J6 fun t7 J7 => ⟨_, _, _, J7, r, q⟩)
  · cases fl with
    | next => exact wpAny_execs_nil (let ⟨σ1, G1, J, q⟩ := z; ⟨σ1, G1, J.ofTry ok, q⟩)
    | brk => exact (let ⟨σ1, G1, J, q⟩ := z; ⟨σ1, G1, J.ofTry ok, q⟩)
    | cont => exact (let ⟨σ1, G1, J, q⟩ := z; ⟨σ1, G1, J.ofTry ok, q⟩)
    | ret u => exact (let ⟨v, σ1, G1, J, r, q⟩ := z; ⟨v, σ1, G1, J.ofTry ok, r, q⟩)
end
end Mz

set_option Elab.async false
set_option linter.all false
set_option maxRecDepth 100000
set_option maxHeartbeats 4000000
/-! min and max of a tuple of ints -/
namespace Mz
open PySem PySem.Spec PyProof.Rows L2
theorem alikeAll_ints (ns : List Int) : PySem.W.AlikeAll (ns.map PyData.int) := by
  refine ⟨fun x hx y hy => ?_, fun x hx => ?_⟩
  · obtain ⟨n, _, rfl⟩ := List.mem_map.mp hx
    obtain ⟨m, _, rfl⟩ := List.mem_map.mp hy
    rfl
  · obtain ⟨n, _, rfl⟩ := List.mem_map.mp hx
    exact fun z => by cases z
def rMinT (K : PySem.W.Frag) : List V → Hp → VK → Prop := fun vs H Q => ∃ (a : Addr) (n : Int) (ns : List Int), vs = [V.ref a] ∧ SqT K H a ((n :: ns).map V.int) ∧ Q (.int (ns.foldl min n)) H
def rMaxT (K : PySem.W.Frag) : List V → Hp → VK → Prop := fun vs H Q => ∃ (a : Addr) (n : Int) (ns : List Int), vs = [V.ref a] ∧ SqT K H a ((n :: ns).map V.int) ∧ Q (.int (ns.foldl max n)) H
section
variable {X : Cx}
theorem call_minT (hc : X.calm = true) (hu : X.A.units + 64 < cLine) : CallR X (.builtin "min") (rMinT X.K) := by
  intro pins s σ H vs us Q I r h
  obtain ⟨a, n, ns, rfl, hs, q⟩ := h
  obtain ⟨its, rv, hl, _⟩ := I.tuple hs
  rw [Vals.ref1 r]
  obtain ⟨as, h4⟩ := Dp.readsAll I _ _ its (dp_ints (n :: ns)) rv
  have dd := depth_ints (n :: ns)
  refine PySem.W.min_tuple_data (x := .int n) (xs := ns.map .int) (I.ok.hd hc) (show s.heap.IsTuple a its.toArray from hl) h4 (alikeAll_ints (n :: ns)) (by show X.A.units + 1 + PyData.depthAll ((n :: ns).map PyData.int) < cLine; omega) fun i v h' tk bs _ rd hk => ?_
  rw [PySem.W.minD_ints] at rd
  cases rd
  exact ⟨.int _, H, I.kept hk, ⟨_, rfl⟩, q⟩
theorem call_maxT (hc : X.calm = true) (hu : X.A.units + 64 < cLine) : CallR X (.builtin "max") (rMaxT X.K) := by
  intro pins s σ H vs us Q I r h
  obtain ⟨a, n, ns, rfl, hs, q⟩ := h
  obtain ⟨its, rv, hl, _⟩ := I.tuple hs
  rw [Vals.ref1 r]
  obtain ⟨as, h4⟩ := Dp.readsAll I _ _ its (dp_ints (n :: ns)) rv
  have dd := depth_ints (n :: ns)
  refine PySem.W.max_tuple_data (x := .int n) (xs := ns.map .int) (I.ok.hd hc) (show s.heap.IsTuple a its.toArray from hl) h4 (alikeAll_ints (n :: ns)) (by show X.A.units + 1 + PyData.depthAll ((n :: ns).map PyData.int) < cLine; omega) fun i v h' tk bs _ rd hk => ?_
  rw [PySem.W.maxD_ints] at rd
  cases rd
  exact ⟨.int _, H, I.kept hk, ⟨_, rfl⟩, q⟩
end
theorem foldl_min_le (n : Int) (ns : List Int) (k : Int) : k ≤ ns.foldl min n ↔ ∀ x ∈ n :: ns, k ≤ x := by
  induction ns generalizing n with
  | nil => simp
  | cons m ns ih =>
    rw [List.foldl_cons, ih]
    simp only [List.mem_cons, forall_eq_or_imp]
    constructor
    · intro ⟨h1, h2⟩
      exact ⟨by omega, by omega, h2⟩
    · intro ⟨h1, h2, h3⟩
      exact ⟨by omega, h3⟩
theorem foldl_max_le (n : Int) (ns : List Int) (k : Int) : ns.foldl max n ≤ k ↔ ∀ x ∈ n :: ns, x ≤ k := by
  induction ns generalizing n with
  | nil => simp
  | cons m ns ih =>
    rw [List.foldl_cons, ih]
    simp only [List.mem_cons, forall_eq_or_imp]
    constructor
    · intro ⟨h1, h2⟩
      exact ⟨by omega, by omega, h2⟩
    · intro ⟨h1, h2, h3⟩
      exact ⟨by omega, h3⟩
end Mz

set_option Elab.async false
set_option linter.all false
set_option maxRecDepth 100000
set_option maxHeartbeats 4000000
/-! ranks and trees -/
namespace Mz
open PySem PySem.Spec PyProof.Rows L2
theorem inVI (c : Int) (ns : List Int) : inV (.int c) (ns.map V.int) = decide (c ∈ ns) := by
  unfold inV
  rw [List.any_map]
  induction ns with
  | nil => simp
  | cons n ns ih =>
    rw [List.any_cons, ih]
    have e : ((fun y => eqV y (V.int c)) ∘ V.int) n = decide (n = c) := by
      show eqV (V.int n) (V.int c) = _
      simp only [eqV]
      by_cases h : n = c <;> simp [h]
    rw [e]
    by_cases h : n = c
    · simp [h]
    · have h2 : ¬ c = n := fun z => h z.symm
      simp [h, h2]
theorem flatI (ns : List Int) : (ns.map V.int).all flatV = true := by
  rw [List.all_eq_true]
  intro x hx
  obtain ⟨n, _, rfl⟩ := List.mem_map.mp hx
  rfl
/-- what is lacking behind the symbols -/
def lackG (rs : List Int) : List Int → Int → Option Int
  | [], n => some n
  | s :: t, n => if n = 0 then none else lackG rs t (n + (rs.getD s.toNat 0 - 1))
/-- a tree over the ranks -/
def treeB (rs t : List Int) : Bool := decide (t.length ≤ 400) && belowB t rs.length && (lackG rs t 1 == some 0)
/-- ranks -/
def ranksB (rs : List Int) : Bool := decide (1 ≤ rs.length) && decide (rs.length ≤ 5) && belowB rs 3 && decide (0 ∈ rs)
theorem lack_drop {rs t : List Int} {i : Nat} {s n : Int} (h : t[i]? = some s) (e : lackG rs t 1 = lackG rs (t.drop i) n) : (n = 0 → lackG rs t 1 = none) ∧ (n ≠ 0 → lackG rs t 1 = lackG rs (t.drop (i + 1)) (n + (rs.getD s.toNat 0 - 1))) := by
  have hd : t.drop i = s :: t.drop (i + 1) := by
    obtain ⟨lt, e⟩ := List.getElem?_eq_some_iff.mp h
    rw [List.drop_eq_getElem_cons lt, e]
  rw [hd] at e
  constructor
  · intro z
    rw [e, lackG, if_pos z]
  · intro z
    rw [e, lackG, if_neg z]
theorem below_at {ns : List Int} {L z : Int} {i : Nat} (h : belowB ns L = true) (e : ns[i]? = some z) : 0 ≤ z ∧ z < L := below_iff.mp h z (List.mem_of_getElem? e)
theorem getD_at {rs : List Int} {z : Int} (h0 : 0 ≤ z) (h1 : z < rs.length) : rs[z.toNat]? = some (rs.getD z.toNat 0) := by
  have lt : z.toNat < rs.length := by omega
  rw [List.getD_eq_getElem?_getD, List.getElem?_eq_getElem lt]
  rfl
theorem dec_intB (x y : Int) : decide (V.int x = V.int y) = (some x == some y) := by
  by_cases h : x = y <;> simp [h]
theorem Kp.seqT {Pt : Addr} {H H' : Hp} {K : PySem.W.Frag} {a : Addr} {xs : List V} (t : GxR.TabG H Pt) (k : Kp Pt H H') (h : SqT K H a xs) : SqT K H' a xs := by
  rcases h with (h | ⟨o, h⟩) | h
  · exact .inl (.inl (k.keep _ _ (tab_ne t h (fun ps z => by cases z)) h))
  · exact .inl (.inr ⟨o, k.keep _ _ (tab_ne t h (fun ps z => by cases z)) h⟩)
  · exact .inr h
theorem ixN_inR {n : Nat} {k : Int} (h0 : 0 ≤ k) (h1 : k < n) : ixN n k = some k.toNat := by
  unfold ixN
  rw [if_pos h0, if_pos h1]
theorem mem_set_self {l : List Int} {j : Nat} {x : Int} (h : j < l.length) : x ∈ l.set j x := List.mem_iff_getElem?.mpr ⟨j, List.getElem?_set_self h⟩
theorem mem_set_or {l : List Int} {j : Nat} {x z : Int} (h : z ∈ l.set j x) : z ∈ l ∨ z = x := List.mem_or_eq_of_mem_set h
theorem same_seqT {H H' : Hp} {K : PySem.W.Frag} {a : Addr} {xs : List V} (k : Same H H') (h : SqT K H a xs) : SqT K H' a xs := by
  rcases h with (h | ⟨o, h⟩) | h
  · exact .inl (.inl (k _ _ h))
  · exact .inl (.inr ⟨o, k _ _ h⟩)
  · exact .inr h
theorem dec_intD (x y : Int) : decide (V.int x = V.int y) = decide (x = y) := by simp
theorem seqIxR {n : Nat} {i : Int} (h0 : 0 ≤ i) (h1 : i < n) : seqIndex? i n = some i.toNat := by
  have e := ixN_inR h0 h1
  exact (ixN_seq e).1
theorem ofInts : ∀ {xs : List V}, (∀ x ∈ xs, ∃ z : Int, x = .int z) → ∃ us : List Int, xs = us.map V.int ∧ us.length = xs.length
  | [], _ => ⟨[], rfl, rfl⟩
  | x :: xs, h => by
    obtain ⟨z, rfl⟩ := h x List.mem_cons_self
    obtain ⟨us, e, l⟩ := ofInts (xs := xs) fun y hy => h y (List.mem_cons_of_mem _ hy)
    exact ⟨z :: us, by rw [e]; rfl, by show us.length + 1 = xs.length + 1; omega⟩
theorem intsMem {ns : List Int} {x : V} (h : x ∈ ns.map V.int) : ∃ z : Int, x = .int z := by
  obtain ⟨n, _, e⟩ := List.mem_map.mp h
  exact ⟨n, e.symm⟩
theorem cutMem {xs : List V} {lo hi : Option Int} {x : V} (h : x ∈ cutV xs lo hi) : x ∈ xs := by
  unfold cutV at h
  exact List.mem_of_mem_drop (List.mem_of_mem_take h)
theorem sIx_at {n d : Nat} {i : Int} (h0 : 0 ≤ i) (h1 : i ≤ n) : HT.sIx n d (some i) = i.toNat := by
  have e : i = ((i.toNat : Nat) : Int) := by omega
  rw [e, HT.sIx_nat]
  omega
theorem cut_take {xs : List V} {i : Int} (h0 : 0 ≤ i) (h1 : i ≤ xs.length) : cutV xs none (some i) = xs.take i.toNat := by
  unfold cutV
  rw [HT.sIx_none, sIx_at h0 h1, List.drop_zero, Nat.sub_zero]
theorem cut_drop {xs : List V} {i : Int} (h0 : 0 ≤ i) (h1 : i ≤ xs.length) : cutV xs (some i) none = xs.drop i.toNat := by
  unfold cutV
  rw [HT.sIx_none, sIx_at h0 h1, List.take_of_length_le (by rw [List.length_drop]; exact Nat.le_refl _)]
theorem cut_mid {xs : List V} {i j : Int} (h0 : 0 ≤ i) (h1 : i ≤ j) (h2 : j ≤ xs.length) : cutV xs (some i) (some j) = (xs.drop i.toNat).take (j.toNat - i.toNat) := by
  unfold cutV
  rw [sIx_at h0 (by omega), sIx_at (by omega) h2]
end Mz

set_option Elab.async false
set_option linter.all false
set_option maxRecDepth 100000
set_option maxHeartbeats 4000000
/-! tree machines -/
namespace Mz
open PySem PySem.Spec PyProof.Rows L2
/-! ### tuples: index, slices and sums; a loop over reversed -/
def rTupIdx (K : PySem.W.Frag) : V → List V → Hp → VK → Prop := fun x xs H Q => ∃ (p : Addr) (ns : List Int) (k : Int), x = .ref p ∧ xs = [.int k] ∧ SqT K H p (ns.map V.int) ∧ k ∈ ns ∧ Q (.int (ns.idxOf k : Nat)) H
theorem mt_tupIdx {X : Cx} : MtR X "tuple.index" (rTupIdx X.K) := by
  intro pins s σ H x xs v us Q I rx rs h
  obtain ⟨p, ns, k, rfl, rfl, hq, hk, q⟩ := h
  cases rx
  obtain ⟨u, rfl, t, rfl⟩ := vals1 rs
  obtain ⟨its, r, pl, hz⟩ := I.tuple hq
  exact PySem.SeqAt.tuple_index_ints (show s.heap.IsTuple p its.toArray from pl) r.ints hk ⟨.int _, H, I.tok _, ⟨_, rfl⟩, q⟩
/-- tuple(list): the object is known -/
def rTupF (K : PySem.W.Frag) : List V → Hp → VK → Prop := fun xs H Q => ∃ p ys, xs = [.ref p] ∧ SqL K H p ys ∧ ∀ (l : Addr) (o : Obj), H l = none → o.dict = none → Q (.ref l) (upd H l (.frz o (.tup ys)))
theorem call_tupleF {X : Cx} : CallR X (.type "tuple") (rTupF X.K) := by
  intro pins s σ H xs us Q I r h
  obtain ⟨p, ys, rfl, hq, q⟩ := h
  obtain ⟨u, rfl, rx⟩ := vals1 r
  cases rx
  obtain ⟨its, r', pl, hz⟩ := I.list hq
  have hlen := r'.length
  refine call_tuple_list pl.isList (fun h' kp => ?_) (by simp only [List.size_toArray] <;> omega)
  have I1 : Inv X pins σ H { s with heap := h' } := I.kept (t' := s.toks) kp
  have I2 : Inv X pins σ (upd H h'.objs.size (.frz { cls := .type "tuple", data := .seq its.toArray } (.tup ys))) { s with heap := h'.push { cls := .type "tuple", data := .seq its.toArray } } :=
    I1.laid (t' := s.toks) (fun b o e => Heap.get?_push_of_some _ e) (Nat.le_refl _) (show ObjOk X.prog X.w _ _ _ (.frz _ (.tup ys)) from ⟨Heap.get?_push_size _ rfl, hz, its, r', IsTup.new _ _⟩)
  exact ⟨.ref h'.objs.size, _, I2, rfl, q _ _ (I1.hok.fresh (Nat.le_refl _)) rfl⟩
/-- o.m(e, ..), o a tuple whose object is known -/
def tBMF (r : V → List V → Hp → VK → Prop) (to : TE) (t : TA) : TE := fun σ H Q => to σ H fun x H1 => (∃ (p : Addr) (o : Obj) (u : List V), x = .ref p ∧ H1 p = some (.frz o (.tup u)) ∧ o.dict = none) ∧ t σ H1 fun xs H2 => r x xs H2 Q
theorem pe_bmF {X : Cx} {o e : Expr} {es : List Expr} {to : TE} {t : TA} {name : Str} {apos cpos : Pos} {id : String} {r : V → List V → Hp → VK → Prop} (pa : PlainAttrs "tuple") (slot : Slot "tuple" name id) (hty : typeOf (.builtin id) = pure (.type "method_descriptor")) (hm : MtR X id r) (ho : PE X o to) (ha : PA X (e :: es) t)
    (hbase : attributeBase o name X.env (eval o X.env) = eval o X.env := by rfl)
    (hfew : ((backTo cpos (starEach (e :: es) X.env)).all (fun x => !x.1) && (backToKw cpos (keywordEach [] X.env)).all (fun x => x.1.isSome)
      && decide ((e :: es).length + ([] : List Keyword).length + (if ([] : List Keyword).isEmpty then 0 else 1) < 30)) = true := by rfl)
    (hline : (apos.endLine == cpos.line) = true := by rfl) (hs : starEach (e :: es) X.env = (false, eval e X.env) :: starEach es X.env := by rfl) (hplain : (backTo cpos (starEach es X.env)).any (·.1) = false := by rfl) :
    PE X (.Call (.Attribute o name apos) (e :: es) [] cpos) (tBMF r to t) := by
  refine ⟨fun pins s σ H Q I h => ?_⟩
  refine wpAny_Call_method_late hbase hfew hline rfl (thn (ho.run pins s σ H _ I h) fun v s1 ⟨x, H1, I1, r1, ⟨p, ob, u, ex, hp, nd⟩, q1⟩ => ?_)
  subst ex
  cases r1
  obtain ⟨g1, _, its, _, o2, g2, g3, _⟩ := (show ObjOk X.prog X.w H1 s1.heap p (.frz ob (.tup u)) from I1.hok p _ hp)
  have eo : ob = o2 := by
    rw [g1] at g2
    exact Option.some.inj g2
  subst eo
  refine ⟨"tuple", id, pa, slot, hty, ⟨ob, g1, g3⟩, fun a ea => ?_, ?_⟩
  · cases ea
    exact ⟨ob, g1, nd⟩
  have hA := ha.run cpos pins s1 σ H1 _ I1 q1
  rw [hs] at hA ⊢
  refine Calls.callWith_builtin (by show (false || (backTo cpos (starEach es X.env)).any (·.1)) = false; rw [hplain] <;> rfl) (Calls.evalArgs_plain ?_)
  exact thn hA fun us s2 ⟨vs, H2, I2, r2, q2⟩ => hm pins s2 σ H2 (.ref p) vs (.ref p) us Q I2 rfl r2 q2
theorem rd_same {H H' : Hp} {a : Addr} {o : HO} (s : Same H H') (h : Rd H a o) : Rd H' a o := by
  rcases h with h | ⟨u, h⟩
  · exact .inl (s _ _ h)
  · exact .inr ⟨u, s _ _ h⟩
theorem rd_t {K : PySem.W.Frag} {H : Hp} {a : Addr} {xs : List V} (h : Rd H a (.tup xs)) : SqT K H a xs := .inl h
theorem Kp.rd {Pt : Addr} {H H' : Hp} {a : Addr} {xs : List V} (t : GxR.TabG H Pt) (k : Kp Pt H H') (h : Rd H a (.tup xs)) : Rd H' a (.tup xs) := by
  rcases h with h | ⟨u, h⟩
  · exact .inl (k.tup t h)
  · exact .inr ⟨u, k.keep _ _ (tab_ne t h (fun ps z => by cases z)) h⟩
theorem slA_rd {K : PySem.W.Frag} {H : Hp} {a : Addr} {xs : List V} {lo hi : Option Int} {Q : VK} (h : Rd H a (.tup xs)) (q : ∀ H' p, Same H H' → Rd H' p (.tup (cutV xs lo hi)) → Q (.ref p) H') : rSlA K (.ref a) lo hi H Q := by
  refine ⟨a, xs, rfl, rd_t h, fun z => ?_, fun _ p hp => q _ p (same_upd (Same.refl H) hp) (.inl upd_same)⟩
  refine q H a (Same.refl H) ?_
  have e : cutV xs lo hi = xs := by
    unfold cutV
    rw [z.1, z.2, List.drop_zero, Nat.sub_zero, List.take_length]
  rw [e]
  exact h
theorem catA_rd {K : PySem.W.Frag} {H : Hp} {a b : Addr} {xs ys : List V} {Q : VK} (h1 : Rd H a (.tup xs)) (h2 : Rd H b (.tup ys)) (l : xs.length + ys.length ≤ sizeLine) (q : ∀ H' p, Same H H' → Rd H' p (.tup (xs ++ ys)) → Q (.ref p) H') : rCatA K (.ref a) (.ref b) H Q := by
  refine ⟨a, b, xs, ys, rfl, rfl, rd_t h1, rd_t h2, l, fun z => ?_, fun _ z => ?_, fun _ _ p hp => q _ p (same_upd (Same.refl H) hp) (.inl upd_same)⟩
  · subst z
    exact q H b (Same.refl H) h2
  · subst z
    exact q H a (Same.refl H) (by rw [List.append_nil]; exact h1)
theorem slA_any {K : PySem.W.Frag} {H : Hp} {a : Addr} {xs : List V} {lo hi : Option Int} {Q : VK} (h : H a = some (.tup xs)) (q : ∀ H' p, Same H H' → H' p = some (.tup (cutV xs lo hi)) → Q (.ref p) H') : rSlA K (.ref a) lo hi H Q := by
  refine ⟨a, xs, rfl, SqT.of h, fun z => ?_, fun _ p hp => q _ p (same_upd (Same.refl H) hp) upd_same⟩
  refine q H a (Same.refl H) ?_
  rw [h]
  unfold cutV
  rw [z.1, z.2, List.drop_zero, Nat.sub_zero, List.take_length]
theorem catA_any {K : PySem.W.Frag} {H : Hp} {a b : Addr} {xs ys : List V} {Q : VK} (h1 : H a = some (.tup xs)) (h2 : H b = some (.tup ys)) (l : xs.length + ys.length ≤ sizeLine) (q : ∀ H' p, Same H H' → H' p = some (.tup (xs ++ ys)) → Q (.ref p) H') : rCatA K (.ref a) (.ref b) H Q := by
  refine ⟨a, b, xs, ys, rfl, rfl, SqT.of h1, SqT.of h2, l, fun z => ?_, fun _ z => ?_, fun _ _ p hp => q _ p (same_upd (Same.refl H) hp) upd_same⟩
  · subst z
    exact q H b (Same.refl H) h2
  · subst z
    exact q H a (Same.refl H) (by rw [List.append_nil]; exact h1)
theorem for_rev {K : PySem.W.Frag} {a : Addr} {xs : List V} {g : TG} {tb : TS} {D : Ends} {σ : L2.St} {H : Hp} (Pv : Nat → L2.St → Hp → Prop) (h0 : Pv 0 σ H) (hl : ∀ i σ H, i ≤ xs.length → Pv i σ H → SqL K H a xs)
    (hs : ∀ i x σ H, i < xs.length → xs[xs.length - 1 - i]? = some x → Pv i σ H → g x σ H fun σ2 H2 => tb { D with nx := Pv (i + 1), ct := Pv (i + 1), bk := D.nx } σ2 H2) (hd : ∀ σ H, Pv xs.length σ H → D.nx σ H) :
    ∃ W : Nat → Nat → L2.St → Hp → Prop, (∃ m, W 0 m σ H) ∧ ∀ i m σ H, W i m σ H →
      ((Itv K a xs.length).stop i H ∧ D.nx σ H) ∨ ((Itv K a xs.length).go i H ∧ ∃ N : L2.St → Hp → Prop, (∀ σ' H', N σ' H' → ∃ m', m' < m ∧ W (i + 1) m' σ' H') ∧ ∀ x H', (Itv K a xs.length).yld i H x H' → g x σ H' fun σ2 H2 => tb { D with nx := N, ct := N, bk := D.nx } σ2 H2) := by
  refine ⟨fun i m σ H => m = xs.length - i ∧ i ≤ xs.length ∧ Pv i σ H, ⟨xs.length, by simp, Nat.zero_le _, h0⟩, ?_⟩
  rintro i m σ H ⟨rfl, hi, p⟩
  have q := hl i σ H hi p
  by_cases hlt : i < xs.length
  · have hx : xs[xs.length - 1 - i]? = some (xs[xs.length - 1 - i]'(by omega)) := List.getElem?_eq_getElem _
    refine .inr ⟨⟨hlt, xs, _, q, hx⟩, Pv (i + 1), fun σ' H' p' => ⟨xs.length - (i + 1), by omega, rfl, hlt, p'⟩, fun x H' y => ?_⟩
    obtain ⟨e, y⟩ := y
    subst e
    exact hs i x σ _ hlt (y xs q) p
  · have e : i = xs.length := by omega
    subst e
    exact .inl ⟨Nat.le_refl _, hd σ H p⟩
/-! ### ranks -/
theorem ranks_iff {rs : List Int} : ranksB rs = true ↔ 1 ≤ rs.length ∧ rs.length ≤ 5 ∧ (∀ z ∈ rs, 0 ≤ z ∧ z < 3) ∧ (0 : Int) ∈ rs := by
  unfold ranksB
  rw [Bool.and_eq_true, Bool.and_eq_true, Bool.and_eq_true, decide_eq_true_iff, decide_eq_true_iff, decide_eq_true_iff, below_iff]
  constructor
  · intro ⟨⟨⟨a, b⟩, c⟩, d⟩
    exact ⟨a, b, c, d⟩
  · intro ⟨a, b, c, d⟩
    exact ⟨⟨⟨a, b⟩, c⟩, d⟩
/-! ### tree machines -/
structure TM where
  rs : List Int
  os : Int
  rules : List (List Int)
  outs : List Int
def TM.n (M : TM) : Int := M.outs.length
/-- the entry for kids -/
def plc (n : Int) (kids : List Int) : Int := kids.foldl (fun at_ k => at_ * n + k) 0
def TM.rank (M : TM) (s : Int) : Int := M.rs.getD s.toNat 0
def TM.rule (M : TM) (s : Int) : List Int := M.rules.getD s.toNat []
def TM.to (M : TM) (s : Int) (kids : List Int) : Int := (M.rule s).getD (plc M.n kids).toNat 0
/-- a symbol is read: its kids are on top -/
def stepS (M : TM) (st : List Int) (s : Int) : List Int := M.to s (st.take (M.rank s).toNat) :: st.drop (M.rank s).toNat
/-- what stands there when a list is read from its end -/
def stackS (M : TM) (t : List Int) : List Int := t.foldr (fun s st => stepS M st s) []
def TM.stateT (M : TM) (t : List Int) : Int := (stackS M t).headD 0
structure GoodT (M : TM) : Prop where
  rk : ranksB M.rs = true
  o1 : 1 ≤ M.os
  o4 : M.os ≤ 4
  n1 : 1 ≤ M.outs.length
  n6 : M.outs.length ≤ 6
  ob : Lt M.os M.outs
  rl : M.rules.length = M.rs.length
  sz : ∀ (i : Nat) (r : Int) (w : List Int), M.rs[i]? = some r → M.rules[i]? = some w → w.length = M.outs.length ^ r.toNat
  rb : ∀ w ∈ M.rules, Lt (M.outs.length : Int) w
/-- the machine in the heap -/
structure TMt (H : Hp) (m : Addr) (M : TM) (r ru ou : Addr) (qs : List Addr) : Prop where
  top : H m = some (.tup [.ref r, .int M.os, .ref ru, .ref ou])
  rs : Rd H r (.tup (M.rs.map V.int))
  ru : H ru = some (.tup (qs.map V.ref))
  ou : H ou = some (.tup (M.outs.map V.int))
  len : qs.length = M.rules.length
  row : ∀ (i : Nat) (q : Addr) (w : List Int), qs[i]? = some q → M.rules[i]? = some w → H q = some (.tup (w.map V.int))
def TMA (H : Hp) (m : Addr) (M : TM) : Prop := ∃ r ru ou qs, TMt H m M r ru ou qs
theorem TMt.same {H H' : Hp} {m : Addr} {M : TM} {r ru ou : Addr} {qs : List Addr} (h : TMt H m M r ru ou qs) (s : Same H H') : TMt H' m M r ru ou qs :=
  ⟨s _ _ h.top, rd_same s h.rs, s _ _ h.ru, s _ _ h.ou, h.len, fun i q w a b => s _ _ (h.row i q w a b)⟩
theorem TMA.same {H H' : Hp} {m : Addr} {M : TM} (h : TMA H m M) (s : Same H H') : TMA H' m M := by
  obtain ⟨r, ru, ou, qs, h⟩ := h
  exact ⟨r, ru, ou, qs, h.same s⟩
theorem Kp.tmt {Pt : Addr} {H H' : Hp} {m : Addr} {M : TM} {r ru ou : Addr} {qs : List Addr} (t : GxR.TabG H Pt) (k : Kp Pt H H') (h : TMt H m M r ru ou qs) : TMt H' m M r ru ou qs :=
  ⟨k.tup t h.top, k.rd t h.rs, k.tup t h.ru, k.tup t h.ou, h.len, fun i q w a b => k.tup t (h.row i q w a b)⟩
theorem Kp.tma {Pt : Addr} {H H' : Hp} {m : Addr} {M : TM} (t : GxR.TabG H Pt) (k : Kp Pt H H') (h : TMA H m M) : TMA H' m M := by
  obtain ⟨r, ru, ou, qs, h⟩ := h
  exact ⟨r, ru, ou, qs, k.tmt t h⟩
theorem plc_snoc {n : Int} {ks : List Int} {k : Int} : plc n (ks ++ [k]) = plc n ks * n + k := by
  unfold plc
  rw [List.foldl_append]
  rfl
theorem plc_acc {n : Int} (hn : 0 < n) : ∀ (ks : List Int) (a : Int) (m : Nat), (∀ k ∈ ks, 0 ≤ k ∧ k < n) → 0 ≤ a ∧ a < n ^ m → 0 ≤ ks.foldl (fun at_ k => at_ * n + k) a ∧ ks.foldl (fun at_ k => at_ * n + k) a < n ^ (m + ks.length)
  | [], a, m, _, h => h
  | k :: ks, a, m, hk, ⟨a0, a1⟩ => by
    obtain ⟨c, d⟩ := hk k List.mem_cons_self
    have e1 : 0 ≤ a * n := Int.mul_nonneg a0 (by omega)
    have e2 : (a + 1) * n ≤ n ^ m * n := Int.mul_le_mul_of_nonneg_right (by omega) (by omega)
    rw [Int.add_mul, Int.one_mul, show n ^ m * n = n ^ (m + 1) from (Int.pow_succ n m).symm] at e2
    have ih := plc_acc hn ks (a * n + k) (m + 1) (fun z hz => hk z (List.mem_cons_of_mem _ hz)) ⟨by omega, by omega⟩
    rw [List.foldl_cons, List.length_cons, show m + (ks.length + 1) = m + 1 + ks.length by omega]
    exact ih
theorem plc_lt {n : Int} (hn : 0 < n) (ks : List Int) (h : ∀ k ∈ ks, 0 ≤ k ∧ k < n) : 0 ≤ plc n ks ∧ plc n ks < n ^ ks.length := by
  have := plc_acc hn ks 0 0 h ⟨Int.le_refl _, by rw [Int.pow_zero]; decide⟩
  rw [Nat.zero_add] at this
  exact this
def sumR (rs t : List Int) : Int := (t.map fun s => rs.getD s.toNat 0 - 1).sum
theorem lack_val {rs : List Int} : ∀ {t : List Int} {n k : Int}, lackG rs t n = some k → k = n + sumR rs t
  | [], n, k, h => by
    have e : n = k := Option.some.inj h
    rw [e]
    show k = k + 0
    omega
  | s :: t, n, k, h => by
    rw [lackG] at h
    by_cases z : n = 0
    · rw [if_pos z] at h
      cases h
    · rw [if_neg z] at h
      rw [lack_val h]
      show _ = n + ((rs.getD s.toNat 0 - 1) + sumR rs t)
      omega
theorem need_at {rs t : List Int} (h : lackG rs t 1 = some 0) (hr : ∀ z ∈ rs, 0 ≤ z) (ht : ∀ z ∈ t, 0 ≤ z ∧ z < (rs.length : Int)) : ∀ i : Nat, i ≤ t.length → ∃ n : Int, 0 ≤ n ∧ lackG rs (t.drop i) n = some 0 := by
  intro i
  induction i with
  | zero => intro _; exact ⟨1, by decide, h⟩
  | succ i ih =>
    intro hi
    obtain ⟨n, n0, e⟩ := ih (by omega)
    have lt : i < t.length := by omega
    rw [List.drop_eq_getElem_cons lt, lackG] at e
    by_cases z : n = 0
    · rw [if_pos z] at e
      cases e
    · rw [if_neg z] at e
      have q := ht t[i] (List.getElem_mem lt)
      have r0 := hr _ (List.mem_of_getElem? (getD_at q.1 q.2))
      exact ⟨_, by omega, e⟩
/-- what stands there when the list from the place i on is read -/
theorem stack_at {M : TM} (g : GoodT M) {t : List Int} (h : treeB M.rs t = true) : ∀ j : Nat, j ≤ t.length →
    (lackG M.rs (t.drop (t.length - j)) ((stackS M (t.drop (t.length - j))).length : Int) = some 0 ∧ ∀ z ∈ stackS M (t.drop (t.length - j)), 0 ≤ z ∧ z < M.n) ∧
    ∀ s, j < t.length → t[t.length - 1 - j]? = some s → (0 ≤ s ∧ s < (M.rs.length : Int)) ∧ 0 ≤ M.rank s ∧ (M.rank s).toNat ≤ (stackS M (t.drop (t.length - j))).length := by
  have h1 : lackG M.rs t 1 = some 0 ∧ ∀ z ∈ t, 0 ≤ z ∧ z < (M.rs.length : Int) := by
    unfold treeB at h
    rw [Bool.and_eq_true, Bool.and_eq_true] at h
    exact ⟨by simpa using h.2, below_iff.mp h.1.2⟩
  obtain ⟨hl, hb⟩ := h1
  have hr : ∀ z ∈ M.rs, 0 ≤ z := fun z hz => ((ranks_iff.mp g.rk).2.2.1 z hz).1
  have nn : 0 < M.n := by have := g.n1; show 0 < (M.outs.length : Int); omega
  have next : ∀ j : Nat, lackG M.rs (t.drop (t.length - j)) ((stackS M (t.drop (t.length - j))).length : Int) = some 0 → ∀ s, j < t.length → t[t.length - 1 - j]? = some s →
      (0 ≤ s ∧ s < (M.rs.length : Int)) ∧ 0 ≤ M.rank s ∧ (M.rank s).toNat ≤ (stackS M (t.drop (t.length - j))).length ∧ lackG M.rs (t.drop (t.length - (j + 1))) (((stackS M (t.drop (t.length - j))).length : Int) + 1 - M.rank s) = some 0 := by
    intro j e s hj hs
    have q := hb s (List.mem_of_getElem? hs)
    have r0 := hr _ (List.mem_of_getElem? (getD_at q.1 q.2))
    obtain ⟨n, n0, en⟩ := need_at hl hr hb (t.length - (j + 1)) (by omega)
    have dd : t.drop (t.length - (j + 1)) = s :: t.drop (t.length - j) := by
      obtain ⟨lt, e2⟩ := List.getElem?_eq_some_iff.mp hs
      have e3 : t.length - (j + 1) = t.length - 1 - j := by omega
      rw [e3, List.drop_eq_getElem_cons lt, e2]
      congr 2
      omega
    have en2 := en
    rw [dd, lackG] at en
    by_cases z : n = 0
    · rw [if_pos z] at en
      cases en
    · rw [if_neg z] at en
      have v1 := lack_val en
      have v2 := lack_val e
      have r0 : 0 ≤ M.rank s := r0
      have rr : M.rank s = M.rs.getD s.toNat 0 := rfl
      have en3 : (((stackS M (t.drop (t.length - j))).length : Int) + 1 - M.rank s) = n := by omega
      refine ⟨q, r0, by omega, ?_⟩
      rw [en3]
      exact en2
  intro j
  induction j with
  | zero =>
    intro _
    have e0 : t.drop (t.length - 0) = [] := by rw [Nat.sub_zero, List.drop_length]
    refine ⟨?_, fun s hj hs => ?_⟩
    · rw [e0]
      exact ⟨rfl, fun z hz => absurd hz (by simp [stackS])⟩
    · have := next 0 (by rw [e0]; rfl) s hj hs
      exact ⟨this.1, this.2.1, this.2.2.1⟩
  | succ j ih =>
    intro hj
    obtain ⟨⟨e, ok⟩, _⟩ := ih (by omega)
    have lt : t.length - 1 - j < t.length := by omega
    have hs : t[t.length - 1 - j]? = some t[t.length - 1 - j] := List.getElem?_eq_getElem lt
    obtain ⟨q, r0, le, en⟩ := next j e _ (by omega) hs
    have dd : t.drop (t.length - (j + 1)) = t[t.length - 1 - j] :: t.drop (t.length - j) := by
      have e3 : t.length - (j + 1) = t.length - 1 - j := by omega
      rw [e3, List.drop_eq_getElem_cons lt]
      congr 2
      omega
    generalize hsy : t[t.length - 1 - j] = s at *
    have st : stackS M (t.drop (t.length - (j + 1))) = stepS M (stackS M (t.drop (t.length - j))) s := by
      rw [dd]
      rfl
    have inv : lackG M.rs (t.drop (t.length - (j + 1))) ((stackS M (t.drop (t.length - (j + 1)))).length : Int) = some 0 ∧ ∀ z ∈ stackS M (t.drop (t.length - (j + 1))), 0 ≤ z ∧ z < M.n := by
      rw [st]
      constructor
      · have el : ((stepS M (stackS M (t.drop (t.length - j))) s).length : Int) = ((stackS M (t.drop (t.length - j))).length : Int) + 1 - M.rank s := by
          unfold stepS
          rw [List.length_cons, List.length_drop]
          omega
        rw [el]
        exact en
      · intro z hz
        unfold stepS at hz
        rcases List.mem_cons.mp hz with w | w
        · rw [w]
          unfold TM.to
          have kk : ∀ k ∈ (stackS M (t.drop (t.length - j))).take (M.rank s).toNat, 0 ≤ k ∧ k < M.n := fun k hk => ok k (List.mem_of_mem_take hk)
          obtain ⟨p0, p1⟩ := plc_lt nn _ kk
          rw [List.length_take, Nat.min_eq_left le] at p1
          have rl := g.rl
          have lr : s.toNat < M.rules.length := by omega
          have er : M.rules[s.toNat]? = some (M.rule s) := by
            unfold TM.rule
            rw [List.getD_eq_getElem?_getD, List.getElem?_eq_getElem lr]
            rfl
          have sz := g.sz s.toNat _ _ (getD_at q.1 q.2) er
          have pl : (plc M.n ((stackS M (t.drop (t.length - j))).take (M.rank s).toNat)).toNat < (M.rule s).length := by
            rw [sz]
            have : (M.n : Int) ^ (M.rank s).toNat = ((M.outs.length ^ (M.rank s).toNat : Nat) : Int) := by
              unfold TM.n
              rw [Int.natCast_pow]
            rw [this] at p1
            have p1 : plc M.n ((stackS M (t.drop (t.length - j))).take (M.rank s).toNat) < ((M.outs.length ^ (M.rs.getD s.toNat 0).toNat : Nat) : Int) := p1
            omega
          refine g.rb (M.rule s) (List.mem_of_getElem? er) _ ?_
          rw [List.getD_eq_getElem?_getD, List.getElem?_eq_getElem pl]
          exact List.getElem_mem pl
        · exact ok z (List.mem_of_mem_drop w)
    refine ⟨inv, fun s' hj' hs' => ?_⟩
    have := next (j + 1) inv.1 s' hj' hs'
    exact ⟨this.1, this.2.1, this.2.2.1⟩
/-- one state is left -/
theorem stack_one {M : TM} (g : GoodT M) {t : List Int} (h : treeB M.rs t = true) : stackS M t = [M.stateT t] ∧ 0 ≤ M.stateT t ∧ M.stateT t < M.n := by
  obtain ⟨⟨e, ok⟩, _⟩ := stack_at g h t.length (Nat.le_refl _)
  rw [Nat.sub_self, List.drop_zero] at e ok
  have hl : lackG M.rs t 1 = some 0 := by
    unfold treeB at h
    rw [Bool.and_eq_true] at h
    simpa using h.2
  have v1 := lack_val e
  have v2 := lack_val hl
  have l1 : (stackS M t).length = 1 := by omega
  obtain ⟨z, hz⟩ := List.length_eq_one_iff.mp l1
  have : M.stateT t = z := by
    unfold TM.stateT
    rw [hz]
    rfl
  rw [this, hz]
  exact ⟨rfl, ok z (by rw [hz]; exact List.mem_singleton.mpr rfl)⟩
theorem stack_next {M : TM} {t : List Int} {j : Nat} {s : Int} (hj : j < t.length) (hs : t[t.length - 1 - j]? = some s) : stackS M (t.drop (t.length - (j + 1))) = stepS M (stackS M (t.drop (t.length - j))) s := by
  obtain ⟨lt, e2⟩ := List.getElem?_eq_some_iff.mp hs
  have e3 : t.length - (j + 1) = t.length - 1 - j := by omega
  have e4 : t.length - j = t.length - 1 - j + 1 := by omega
  rw [e3, e4, List.drop_eq_getElem_cons lt, e2]
  rfl
/-- the entry for kids is there -/
theorem entry_at {M : TM} (g : GoodT M) {s : Int} (h0 : 0 ≤ s) (h1 : s < (M.rs.length : Int)) {ks : List Int} (hk : ∀ k ∈ ks, 0 ≤ k ∧ k < M.n) (hl : ks.length = (M.rank s).toNat) :
    M.rules[s.toNat]? = some (M.rule s) ∧ 0 ≤ plc M.n ks ∧ (M.rule s)[(plc M.n ks).toNat]? = some (M.to s ks) ∧ 0 ≤ M.to s ks ∧ M.to s ks < M.n := by
  have nn : 0 < M.n := by have := g.n1; show 0 < (M.outs.length : Int); omega
  obtain ⟨p0, p1⟩ := plc_lt nn _ hk
  have rl := g.rl
  have lr : s.toNat < M.rules.length := by omega
  have er : M.rules[s.toNat]? = some (M.rule s) := by
    unfold TM.rule
    rw [List.getD_eq_getElem?_getD, List.getElem?_eq_getElem lr]
    rfl
  have sz := g.sz s.toNat _ _ (getD_at h0 h1) er
  have pl : (plc M.n ks).toNat < (M.rule s).length := by
    rw [sz]
    have : (M.n : Int) ^ ks.length = ((M.outs.length ^ ks.length : Nat) : Int) := by
      unfold TM.n
      rw [Int.natCast_pow]
    rw [this, hl] at p1
    have p1 : plc M.n ks < ((M.outs.length ^ (M.rs.getD s.toNat 0).toNat : Nat) : Int) := p1
    omega
  have ee : (M.rule s)[(plc M.n ks).toNat]? = some (M.to s ks) := by
    unfold TM.to
    rw [List.getD_eq_getElem?_getD, List.getElem?_eq_getElem pl]
    rfl
  have := g.rb (M.rule s) (List.mem_of_getElem? er) _ (List.mem_of_getElem? ee)
  exact ⟨er, p0, ee, this.1, this.2⟩
theorem drop_cons {st : List Int} {k : Nat} (h : k < st.length) : ∃ a, st[k]? = some a ∧ st.drop k = a :: st.drop (k + 1) ∧ st.take (k + 1) = st.take k ++ [a] := by
  refine ⟨st[k], List.getElem?_eq_getElem h, List.drop_eq_getElem_cons h, ?_⟩
  rw [List.take_succ, List.getElem?_eq_getElem h]
  rfl
theorem rev_cons {a : Int} {l : List Int} : (a :: l).reverse.map V.int = l.reverse.map V.int ++ [.int a] := by
  rw [List.reverse_cons, List.map_append]
  rfl
theorem last_snoc {xs : List V} {y : V} : (xs ++ [y])[(xs ++ [y]).length - 1]? = some y := by
  rw [List.length_append]
  show (xs ++ [y])[xs.length]? = some y
  rw [List.getElem?_append_right (Nat.le_refl _), Nat.sub_self]
  rfl
theorem stack_len (M : TM) : ∀ u : List Int, (stackS M u).length ≤ u.length
  | [] => Nat.le_refl _
  | s :: u => by
    have ih := stack_len M u
    show (stepS M (stackS M u) s).length ≤ _
    unfold stepS
    rw [List.length_cons, List.length_drop, List.length_cons]
    omega
/-- len in a comprehension -/
def rLenC (K : PySem.W.Frag) : List V → Hp → VK → Prop := fun xs H Q => ∃ p ys, xs = [V.ref p] ∧ (SqL K H p ys ∨ SqT K H p ys) ∧ Q (V.int ((ys.length : Nat) : Int)) H
theorem call_lenC {X : Cx} : CallR X (Value.builtin "len") (rLenC X.K) := call_len_seq
end Mz

set_option Elab.async false
set_option linter.all false
set_option maxRecDepth 100000
set_option maxHeartbeats 4000000
namespace K61
open PySem PySem.Spec PyProof.Rows L2 Mz
def top (i : Nat) : Stmt := PySem.Challenge.pw_maieutic_k61_tree_machines_run.main.body.getD i (.Pass ⟨0, 0, 0, 0⟩)
abbrev s_are_below : Stmt := top 5
abbrev s_are_ranks : Stmt := top 12
abbrev s_is_tree : Stmt := top 13
abbrev s_check_tree_machine : Stmt := top 14
abbrev s_check_tree : Stmt := top 15
abbrev s_state_of_tree : Stmt := top 16
abbrev s_output_of_tree : Stmt := top 17
abbrev s_states_of_trees : Stmt := top 18
abbrev s_law_numbers : Stmt := top 20
abbrev s_law_ranks : Stmt := top 21
abbrev s_law_tree_machine : Stmt := top 22
abbrev s_law_rule : Stmt := top 23
abbrev s_law_state : Stmt := top 24
abbrev s_law_drawn_tree : Stmt := top 25
abbrev s_law_bad : Stmt := top 26
abbrev s_law_refused : Stmt := top 27
abbrev s_law_seven : Stmt := top 28
abbrev s_law : Stmt := top 29
theorem sc_are_below : FnScope ["numbers", "limit", "number"] ["numbers", "limit"] (defScope s_are_below) := ⟨rfl, rfl, rfl, by decide +kernel, rfl, by decide +kernel, by decide +kernel⟩
theorem sc_are_ranks : FnScope ["ranks"] ["ranks"] (defScope s_are_ranks) := ⟨rfl, rfl, rfl, by decide +kernel, rfl, by decide +kernel, by decide +kernel⟩
theorem sc_is_tree : FnScope ["ranks", "tree", "lacking", "symbol"] ["ranks", "tree"] (defScope s_is_tree) := ⟨rfl, rfl, rfl, by decide +kernel, rfl, by decide +kernel, by decide +kernel⟩
theorem sc_check_tree_machine : FnScope ["machine", "ranks", "outs", "rules", "outputs", "count", "rank", "rule"] ["machine"] (defScope s_check_tree_machine) := ⟨rfl, rfl, rfl, by decide +kernel, rfl, by decide +kernel, by decide +kernel⟩
theorem sc_check_tree : FnScope ["machine", "tree"] ["machine", "tree"] (defScope s_check_tree) := ⟨rfl, rfl, rfl, by decide +kernel, rfl, by decide +kernel, by decide +kernel⟩
theorem sc_state_of_tree : FnScope ["machine", "tree"] ["machine", "tree"] (defScope s_state_of_tree) := ⟨rfl, rfl, rfl, by decide +kernel, rfl, by decide +kernel, by decide +kernel⟩
theorem sc_output_of_tree : FnScope ["machine", "tree"] ["machine", "tree"] (defScope s_output_of_tree) := ⟨rfl, rfl, rfl, by decide +kernel, rfl, by decide +kernel, by decide +kernel⟩
theorem sc_states_of_trees : FnScope ["machine", "symbols", "ranks", "_", "rules", "outputs", "states", "symbol", "place"] ["machine", "symbols"] (defScope s_states_of_trees) := ⟨rfl, rfl, rfl, by decide +kernel, rfl, by decide +kernel, by decide +kernel⟩
theorem sc_law_numbers : FnScope ["script", "many", "numbers", "k", "cell", "j", "mixed", "base", "last"] ["script", "many"] (defScope s_law_numbers) := ⟨rfl, rfl, rfl, by decide +kernel, rfl, by decide +kernel, by decide +kernel⟩
theorem sc_law_ranks : FnScope ["number", "ranks", "k"] ["number"] (defScope s_law_ranks) := ⟨rfl, rfl, rfl, by decide +kernel, rfl, by decide +kernel, by decide +kernel⟩
theorem sc_law_tree_machine : FnScope ["numbers", "ranks", "outs", "states", "rules", "symbol", "size", "outputs", "state", "k"] ["numbers", "ranks", "outs", "states"] (defScope s_law_tree_machine) := ⟨rfl, rfl, rfl, by decide +kernel, rfl, by decide +kernel, by decide +kernel⟩
theorem sc_law_rule : FnScope ["machine", "symbol", "kids", "at", "kid"] ["machine", "symbol", "kids"] (defScope s_law_rule) := ⟨rfl, rfl, rfl, by decide +kernel, rfl, by decide +kernel, by decide +kernel⟩
theorem sc_law_state : FnScope ["machine", "tree", "ready", "symbol", "kids", "k"] ["machine", "tree"] (defScope s_law_state) := ⟨rfl, rfl, rfl, by decide +kernel, rfl, by decide +kernel, by decide +kernel⟩
theorem sc_law_drawn_tree : FnScope ["ranks", "numbers", "most", "symbol", "leaves", "tree", "need", "k"] ["ranks", "numbers", "most"] (defScope s_law_drawn_tree) := ⟨rfl, rfl, rfl, by decide +kernel, rfl, by decide +kernel, by decide +kernel⟩
theorem sc_law_bad : FnScope ["machine", "number", "ranks", "outs", "rules", "outputs", "kind", "one", "menu"] ["machine", "number"] (defScope s_law_bad) := ⟨rfl, rfl, rfl, by decide +kernel, rfl, by decide +kernel, by decide +kernel⟩
theorem sc_law_refused : FnScope ["machine", "e"] ["machine"] (defScope s_law_refused) := ⟨rfl, rfl, rfl, by decide +kernel, rfl, by decide +kernel, by decide +kernel⟩
theorem sc_law_seven : FnScope [] [] (defScope s_law_seven) := ⟨rfl, rfl, rfl, by decide +kernel, rfl, by decide +kernel, by decide +kernel⟩
theorem sc_law : FnScope ["script", "numbers", "ranks", "machine", "k", "tree", "kept", "state", "output"] ["script"] (defScope s_law) := ⟨rfl, rfl, rfl, by decide +kernel, rfl, by decide +kernel, by decide +kernel⟩
/-- where the top has put what it makes -/
structure Ads where
  a_MaieuticError : Addr
  a_NotAllowed : Addr
  a_Missing : Addr
  a_are_below : Addr
  d_are_below : FuncData
  a_are_ranks : Addr
  d_are_ranks : FuncData
  a_is_tree : Addr
  d_is_tree : FuncData
  a_check_tree_machine : Addr
  d_check_tree_machine : FuncData
  a_check_tree : Addr
  d_check_tree : FuncData
  a_state_of_tree : Addr
  d_state_of_tree : FuncData
  a_output_of_tree : Addr
  d_output_of_tree : FuncData
  a_states_of_trees : Addr
  d_states_of_trees : FuncData
  a_law_numbers : Addr
  d_law_numbers : FuncData
  a_law_ranks : Addr
  d_law_ranks : FuncData
  a_law_tree_machine : Addr
  d_law_tree_machine : FuncData
  a_law_rule : Addr
  d_law_rule : FuncData
  a_law_state : Addr
  d_law_state : FuncData
  a_law_drawn_tree : Addr
  d_law_drawn_tree : FuncData
  a_law_bad : Addr
  d_law_bad : FuncData
  a_law_refused : Addr
  d_law_refused : FuncData
  a_law_seven : Addr
  d_law_seven : FuncData
  a_law : Addr
  d_law : FuncData
/-- what the proofs ask of the written part -/
structure Txt (K : PySem.W.Frag) (mg : Str → Option Value) (A : Ads) : Prop where
  g_MaieuticError : mg "MaieuticError" = some (.ref A.a_MaieuticError)
  x_MaieuticError : PySem.W.excIn K A.a_MaieuticError [.type "ValueError", .type "Exception", .type "BaseException", .type "object"] "ValueError.__new__" = true
  k_MaieuticError : PySem.W.keepIn K (.ref A.a_MaieuticError) = true
  sb_MaieuticError : PySem.W.subIn K (.ref A.a_MaieuticError) (.type "BaseException") = some true
  ty_MaieuticError : PySem.W.typeIn K (.ref A.a_MaieuticError) = some (.type "type")
  E_MaieuticError : ExcC K A.a_MaieuticError
  g_NotAllowed : mg "NotAllowed" = some (.ref A.a_NotAllowed)
  x_NotAllowed : PySem.W.excIn K A.a_NotAllowed [.type "ValueError", .type "Exception", .type "BaseException", .type "object"] "ValueError.__new__" = true
  k_NotAllowed : PySem.W.keepIn K (.ref A.a_NotAllowed) = true
  sb_NotAllowed : PySem.W.subIn K (.ref A.a_NotAllowed) (.type "BaseException") = some true
  ty_NotAllowed : PySem.W.typeIn K (.ref A.a_NotAllowed) = some (.type "type")
  E_NotAllowed : ExcC K A.a_NotAllowed
  g_Missing : mg "Missing" = some (.ref A.a_Missing)
  x_Missing : PySem.W.excIn K A.a_Missing [.type "ValueError", .type "Exception", .type "BaseException", .type "object"] "ValueError.__new__" = true
  k_Missing : PySem.W.keepIn K (.ref A.a_Missing) = true
  sb_Missing : PySem.W.subIn K (.ref A.a_Missing) (.type "BaseException") = some true
  ty_Missing : PySem.W.typeIn K (.ref A.a_Missing) = some (.type "type")
  E_Missing : ExcC K A.a_Missing
  su_MaieuticError_MaieuticError : PySem.W.subIn K (.ref A.a_MaieuticError) (.ref A.a_MaieuticError) = some true
  su_MaieuticError_NotAllowed : PySem.W.subIn K (.ref A.a_MaieuticError) (.ref A.a_NotAllowed) = some false
  su_MaieuticError_Missing : PySem.W.subIn K (.ref A.a_MaieuticError) (.ref A.a_Missing) = some false
  su_NotAllowed_MaieuticError : PySem.W.subIn K (.ref A.a_NotAllowed) (.ref A.a_MaieuticError) = some true
  su_NotAllowed_NotAllowed : PySem.W.subIn K (.ref A.a_NotAllowed) (.ref A.a_NotAllowed) = some true
  su_NotAllowed_Missing : PySem.W.subIn K (.ref A.a_NotAllowed) (.ref A.a_Missing) = some false
  su_Missing_MaieuticError : PySem.W.subIn K (.ref A.a_Missing) (.ref A.a_MaieuticError) = some true
  su_Missing_NotAllowed : PySem.W.subIn K (.ref A.a_Missing) (.ref A.a_NotAllowed) = some false
  su_Missing_Missing : PySem.W.subIn K (.ref A.a_Missing) (.ref A.a_Missing) = some true
  sv_MaieuticError : PySem.W.subIn K (.ref A.a_MaieuticError) (.type "ValueError") = some true
  sv_NotAllowed : PySem.W.subIn K (.ref A.a_NotAllowed) (.type "ValueError") = some true
  sv_Missing : PySem.W.subIn K (.ref A.a_Missing) (.type "ValueError") = some true
  F_are_below : Fun K "are_below" "are_below" s_are_below A.a_are_below A.d_are_below
  b_are_below : Binds K A.d_are_below ["numbers", "limit"] []
  g_are_below : mg "are_below" = some (.ref A.a_are_below)
  F_are_ranks : Fun K "are_ranks" "are_ranks" s_are_ranks A.a_are_ranks A.d_are_ranks
  b_are_ranks : Binds K A.d_are_ranks ["ranks"] []
  g_are_ranks : mg "are_ranks" = some (.ref A.a_are_ranks)
  F_is_tree : Fun K "is_tree" "is_tree" s_is_tree A.a_is_tree A.d_is_tree
  b_is_tree : Binds K A.d_is_tree ["ranks", "tree"] []
  g_is_tree : mg "is_tree" = some (.ref A.a_is_tree)
  F_check_tree_machine : Fun K "check_tree_machine" "check_tree_machine" s_check_tree_machine A.a_check_tree_machine A.d_check_tree_machine
  b_check_tree_machine : Binds K A.d_check_tree_machine ["machine"] []
  g_check_tree_machine : mg "check_tree_machine" = some (.ref A.a_check_tree_machine)
  F_check_tree : Fun K "check_tree" "check_tree" s_check_tree A.a_check_tree A.d_check_tree
  b_check_tree : Binds K A.d_check_tree ["machine", "tree"] []
  g_check_tree : mg "check_tree" = some (.ref A.a_check_tree)
  F_state_of_tree : Fun K "state_of_tree" "state_of_tree" s_state_of_tree A.a_state_of_tree A.d_state_of_tree
  b_state_of_tree : Binds K A.d_state_of_tree ["machine", "tree"] []
  g_state_of_tree : mg "state_of_tree" = some (.ref A.a_state_of_tree)
  F_output_of_tree : Fun K "output_of_tree" "output_of_tree" s_output_of_tree A.a_output_of_tree A.d_output_of_tree
  b_output_of_tree : Binds K A.d_output_of_tree ["machine", "tree"] []
  g_output_of_tree : mg "output_of_tree" = some (.ref A.a_output_of_tree)
  F_states_of_trees : Fun K "states_of_trees" "states_of_trees" s_states_of_trees A.a_states_of_trees A.d_states_of_trees
  b_states_of_trees : Binds K A.d_states_of_trees ["machine", "symbols"] []
  g_states_of_trees : mg "states_of_trees" = some (.ref A.a_states_of_trees)
  F_law_numbers : Fun K "_law_numbers" "_law_numbers" s_law_numbers A.a_law_numbers A.d_law_numbers
  b_law_numbers : Binds K A.d_law_numbers ["script", "many"] []
  g_law_numbers : mg "_law_numbers" = some (.ref A.a_law_numbers)
  F_law_ranks : Fun K "_law_ranks" "_law_ranks" s_law_ranks A.a_law_ranks A.d_law_ranks
  b_law_ranks : Binds K A.d_law_ranks ["number"] []
  g_law_ranks : mg "_law_ranks" = some (.ref A.a_law_ranks)
  F_law_tree_machine : Fun K "_law_tree_machine" "_law_tree_machine" s_law_tree_machine A.a_law_tree_machine A.d_law_tree_machine
  b_law_tree_machine : Binds K A.d_law_tree_machine ["numbers", "ranks", "outs", "states"] []
  g_law_tree_machine : mg "_law_tree_machine" = some (.ref A.a_law_tree_machine)
  F_law_rule : Fun K "_law_rule" "_law_rule" s_law_rule A.a_law_rule A.d_law_rule
  b_law_rule : Binds K A.d_law_rule ["machine", "symbol", "kids"] []
  g_law_rule : mg "_law_rule" = some (.ref A.a_law_rule)
  F_law_state : Fun K "_law_state" "_law_state" s_law_state A.a_law_state A.d_law_state
  b_law_state : Binds K A.d_law_state ["machine", "tree"] []
  g_law_state : mg "_law_state" = some (.ref A.a_law_state)
  F_law_drawn_tree : Fun K "_law_drawn_tree" "_law_drawn_tree" s_law_drawn_tree A.a_law_drawn_tree A.d_law_drawn_tree
  b_law_drawn_tree : Binds K A.d_law_drawn_tree ["ranks", "numbers", "most"] []
  g_law_drawn_tree : mg "_law_drawn_tree" = some (.ref A.a_law_drawn_tree)
  F_law_bad : Fun K "_law_bad" "_law_bad" s_law_bad A.a_law_bad A.d_law_bad
  b_law_bad : Binds K A.d_law_bad ["machine", "number"] []
  g_law_bad : mg "_law_bad" = some (.ref A.a_law_bad)
  F_law_refused : Fun K "_law_refused" "_law_refused" s_law_refused A.a_law_refused A.d_law_refused
  b_law_refused : Binds K A.d_law_refused ["machine"] []
  g_law_refused : mg "_law_refused" = some (.ref A.a_law_refused)
  F_law_seven : Fun K "_law_seven" "_law_seven" s_law_seven A.a_law_seven A.d_law_seven
  b_law_seven : Binds K A.d_law_seven [] []
  g_law_seven : mg "_law_seven" = some (.ref A.a_law_seven)
  F_law : Fun K "law" "law" s_law A.a_law A.d_law
  b_law : Binds K A.d_law ["script"] []
  g_law : mg "law" = some (.ref A.a_law)
  c_MAX_SYMBOLS : ∃ u, mg "MAX_SYMBOLS" = some u ∧ RelV (.int 5) u
  c_MAX_RANK : ∃ u, mg "MAX_RANK" = some u ∧ RelV (.int 2) u
  c_MAX_TREE_STATES : ∃ u, mg "MAX_TREE_STATES" = some u ∧ RelV (.int 6) u
  c_MAX_TREE_OUTS : ∃ u, mg "MAX_TREE_OUTS" = some u ∧ RelV (.int 4) u
  c_MAX_NODES : ∃ u, mg "MAX_NODES" = some u ∧ RelV (.int 400) u
  n_all : mg "all" = none
  n_len : mg "len" = none
  n_zip : mg "zip" = none
  n_reversed : mg "reversed" = none
  n_range : mg "range" = none
  n_abs : mg "abs" = none
  n_int : mg "int" = none
  n_max : mg "max" = none
  n_tuple : mg "tuple" = none
  n_isinstance : mg "isinstance" = none
  n_ValueError : mg "ValueError" = none
  n_list : mg "list" = none
  n_bool : mg "bool" = none
/-- what _law_numbers gives -/
structure Nums (ms : List Int) (many : Int) : Prop where
  len : (ms.length : Int) = many
  ok : ∀ z ∈ ms, 0 ≤ z ∧ z < 4294967296
def spNumbers (K : PySem.W.Frag) : Sp := fun vs H Q _ => ∃ (a : Addr) (ns : List Int) (many : Int), vs = [.ref a, .int many] ∧ SqL K H a (ns.map V.int) ∧ ns.length ≤ 63 ∧ 0 ≤ many ∧ many ≤ 4000 ∧
  ∀ (ms : List Int) (H' : Hp) (p : Addr), Nums ms many → Same H H' → H p = none → H' p = some (.lst (ms.map V.int)) → Q (.ref p) H'
section
variable {P : Program} {w : World} {K : PySem.W.Frag} {mg : Str → Option Value} {base : Heap} {A : Ads}
theorem ok_numbers (T : Txt K mg A) : FnOk P w K mg base CX0 1 A.a_law_numbers A.d_law_numbers ["script", "many"] (spNumbers K) := by
  refine T.F_law_numbers.ok sc_law_numbers (fun vs H Q E h => ?_) (fun cdv Ar outer s H vs Q E hr h => ?_)
  · obtain ⟨_, _, _, rfl, _⟩ := h
    rfl
  · obtain ⟨a, ns, many, rfl, hS, l63, m0, m4, fin⟩ := h
    refine ⟨_, (pss_cons (ps_set (i := 2) sc_law_numbers.nd rfl (Or.inl rfl) (pe_lst pa_nil))
      (pss_cons (ps_for PassesOwn.never rfl (pi_range1 (by rfl) T.n_range (pa_cons (pe_callB call_len_seq (by rfl) T.n_len PySem.boot_len (pa_cons (pv 0) pa_nil)) pa_nil)) (pg_name (i := 3) sc_law_numbers.nd rfl (Or.inl rfl))
        (pss_cons (ps_set (i := 4) sc_law_numbers.nd rfl (Or.inl rfl) (pe_callB call_abs (by rfl) T.n_abs (by decide +kernel) (pa_cons (pe_callTy call_int1 (by rfl) T.n_int (by decide +kernel) (pa_cons (pe_ix (r := rIx K) ix_seq (pv 0) (pv 3) (fun _ _ => rfl)) pa_nil)) pa_nil)))
          (pss_one (ps_if (pt_cmpR op_ge (pv 4) (pe_op op_pow pe_int pe_int) (nomark _)) (pss_one (ps_for PassesOwn.never rfl (pi_range1 (by rfl) T.n_range (pa_cons pe_int pa_nil)) (pg_name (i := 5) sc_law_numbers.nd rfl (Or.inl rfl))
                (pss_one (ps_if (PW.pt (pw_and (pt_cmpR op_gt (pv 4) pe_int (nomark _)) (pw_and1 (pt_cmpR op_lt (pe_callB call_len_seq (by rfl) T.n_len PySem.boot_len (pa_cons (pv 2) pa_nil)) (pv 1) (nomark _))))) (pss_cons (ps_expr (pe_bm PySem.F.plainAttrs_list PySem.F.slot_list_append PySem.F.type_list_append mt_append (pv 2) (pa_cons (pe_op op_mod (pv 4) pe_int) pa_nil)))
                      (pss_one (ps_set (i := 4) sc_law_numbers.nd rfl (Or.inl rfl) (pe_op op_fdiv (pv 4) pe_int)))) pss_nil)))) (pss_one (ps_if (pt_cmpR op_lt (pe_callB call_len_seq (by rfl) T.n_len PySem.boot_len (pa_cons (pv 2) pa_nil)) (pv 1) (nomark _)) (pss_cons (ps_set (i := 6) sc_law_numbers.nd rfl (Or.inl rfl) (pe_op op_mod (pe_callTy call_int1 (by rfl) T.n_int (by decide +kernel) (pa_cons (pe_op op_add (pe_op op_add (pe_op op_mul (pv 4) pe_int) (pe_op op_mul (pv 3) pe_int)) pe_int) pa_nil)) pe_int))
                  (pss_one (ps_expr (pe_bm PySem.F.plainAttrs_list PySem.F.slot_list_append PySem.F.type_list_append mt_append (pv 2) (pa_cons (pe_op op_fdiv (pe_op op_mod (pe_callTy call_int1 (by rfl) T.n_int (by decide +kernel) (pa_cons (pe_op op_add (pe_op op_add (pe_op op_mul (pv 6) pe_int) (pe_op op_mul pe_int (pv 3))) pe_int) pa_nil)) pe_int) pe_int) pa_nil))))) pss_nil))))))
      (pss_cons (ps_set (i := 7) sc_law_numbers.nd rfl (Or.inl rfl) (pe_callB call_len_seq (by rfl) T.n_len PySem.boot_len (pa_cons (pv 2) pa_nil)))
      (pss_cons (ps_set (i := 8) sc_law_numbers.nd rfl (Or.inl rfl) (pe_op op_add pe_int (pe_callB call_len_seq (by rfl) T.n_len PySem.boot_len (pa_cons (pv 0) pa_nil))))
      (pss_cons (ps_for PassesOwn.never rfl (pi_range1 (by rfl) T.n_range (pa_cons (pe_callB (call_max2 rfl) (by rfl) T.n_max (by decide +kernel) (pa_cons pe_int (pa_cons (pe_op op_sub (pv 1) (pv 7)) pa_nil))) pa_nil)) (pg_name (i := 3) sc_law_numbers.nd rfl (Or.inl rfl))
        (pss_cons (ps_if (pt_cmpR op_gt (pv 7) pe_int (nomark _)) (pss_one (ps_set (i := 8) sc_law_numbers.nd rfl (Or.inl rfl) (pe_op op_add (pv 8) (pe_ix (r := rIx K) ix_seq (pv 2) (pe_op op_mod (pv 3) (pv 7)) (fun _ _ => rfl))))) pss_nil)
          (pss_cons (ps_set (i := 8) sc_law_numbers.nd rfl (Or.inl rfl) (pe_op op_mod (pe_callTy call_int1 (by rfl) T.n_int (by decide +kernel) (pa_cons (pe_op op_add (pe_op op_mul (pv 8) pe_int) (pv 3)) pa_nil)) pe_int))
          (pss_one (ps_expr (pe_bm PySem.F.plainAttrs_list PySem.F.slot_list_append PySem.F.type_list_append mt_append (pv 2) (pa_cons (pe_op op_fdiv (pv 8) pe_int) pa_nil)))))))
      (pss_one (ps_ret (pe_slice sl_list (pv 2) po_none (po_some (pv 1)))))))))), ?_⟩
    refine ⟨Nat.zero_le _, fun l hl => ?_⟩
    have s0 : Same H (upd H l (.lst [])) := same_upd (Same.refl H) hl
    have hls : (ns.map V.int).length = ns.length := List.length_map ..
    -- one more number
    have push : ∀ (H1 : Hp) (ms : List Int) (z : Int), Same H H1 → (∀ z ∈ ms, 0 ≤ z ∧ z < 4294967296) → 0 ≤ z ∧ z < 4294967296 →
        Same H (upd H1 l (.lst (ms.map V.int ++ [.int z]))) ∧ (upd H1 l (.lst (ms.map V.int ++ [.int z]))) l = some (.lst ((ms ++ [z]).map V.int)) ∧ (∀ x ∈ ms ++ [z], 0 ≤ x ∧ x < 4294967296) := by
      intro H1 ms z q1 q4 q5
      refine ⟨same_set q1 hl, ?_, ?_⟩
      · rw [upd_same, List.map_append]
        rfl
      · intro x hx
        rcases List.mem_append.mp hx with e | e
        · exact q4 x e
        · rw [List.mem_singleton.mp e]
          exact q5
    refine ⟨_, rfl, a, _, rfl, .inl (s0.seq hS), ?_⟩
    rw [hls]
    refine ⟨ns.length, rfl, by omega, by omega, for_range (fun i σ H' => ∃ (ms : List Int) (v3 v4 v5 v6 v7 v8 : Option V), σ = [some (.ref a), some (.int many), some (.ref l), v3, v4, v5, v6, v7, v8] ∧ Same H H' ∧ H' l = some (.lst (ms.map V.int)) ∧ (ms.length : Int) ≤ many ∧ (∀ z ∈ ms, 0 ≤ z ∧ z < 4294967296))
      ⟨[], none, none, none, none, none, none, rfl, s0, upd_same, m0, fun z hz => absurd hz (by simp)⟩ ?_ ?_⟩
    · rintro i σ H' hi ⟨ms, v3, v4, v5, v6, v7, v8, rfl, s1, e1, few, ok⟩
      have hi : i < ns.length := hi
      have i0 : ((0 : Int) + (i : Int)).toNat = i := by omega
      refine ⟨_, rfl, _, rfl, .inl ⟨a, _, _, _, rfl, rfl, s1.seq hS, atI_get? (z := ns[i]) (by omega) (by rw [i0]; exact List.getElem?_eq_getElem hi), ?_⟩⟩
      refine .inl ⟨_, rfl, _, rfl, ?_⟩
      have c0 : 0 ≤ (if ns[i] < 0 then -ns[i] else ns[i]) := by split <;> omega
      generalize (if ns[i] < 0 then -ns[i] else ns[i]) = c at c0
      refine ⟨_, rfl, _, _, rfl, rfl, ⟨by decide, by decide, by decide⟩, _, _, rfl, rfl, _, rfl, ?_⟩
      refine ite2 (fun big => ?_) (fun big => ?_)
      · refine ⟨60, rfl, by decide, by decide, for_range (n := 60) (fun j σ H' => ∃ (ms : List Int) (r : Int) (v5 v6 v7 v8 : Option V), σ = [some (.ref a), some (.int many), some (.ref l), some (.int ((0 : Int) + (i : Int))), some (.int r), v5, v6, v7, v8] ∧ 0 ≤ r ∧ Same H H' ∧ H' l = some (.lst (ms.map V.int)) ∧ (ms.length : Int) ≤ many ∧ (∀ z ∈ ms, 0 ≤ z ∧ z < 4294967296))
          ⟨ms, c, v5, v6, v7, v8, rfl, c0, s1, e1, few, ok⟩ ?_ ?_⟩
        · clear s1 e1 few ok ms big c0 c
          rintro j σ H1 hj ⟨ms, r, v5, v6, v7, v8, rfl, r0, s1, e1, few, ok⟩
          have hlm : (ms.map V.int).length = ms.length := List.length_map ..
          refine ⟨_, rfl, _, _, rfl, rfl, _, rfl, ?_⟩
          refine ite2 (fun c1 => ?_) (fun c1 => ?_)
          · refine ⟨_, rfl, l, _, rfl, .inl (SqL.of e1), _, rfl, _, _, rfl, rfl, _, rfl, ?_⟩
            rw [hlm]
            refine ite2 (fun c2 => ?_) (fun c2 => ?_)
            · have c2 : (ms.length : Int) < many := by simpa using c2
              refine ⟨_, rfl, .inl ⟨rfl, _, SqL.of e1⟩, _, rfl, _, _, rfl, rfl, (by show (0 : Int) < 10007; decide), l, _, _, rfl, rfl, e1, ?_, ?_⟩
              · rw [hlm]
                exact Nat.lt_of_le_of_lt (by omega : ms.length ≤ 4000) (by decide)
              · obtain ⟨p1, p2, p4⟩ := push H1 ms (r % 10007) s1 ok (by omega)
                refine ⟨_, rfl, _, _, rfl, rfl, ⟨by decide, by decide⟩, ?_⟩
                exact ⟨ms ++ [r % 10007], _, _, _, _, _, rfl, Int.ediv_nonneg r0 (by decide), p1, p2, by rw [List.length_append, List.length_singleton]; omega, p4⟩
            · exact ⟨ms, _, _, _, _, _, rfl, r0, s1, e1, few, ok⟩
          · exact ⟨ms, _, _, _, _, _, rfl, r0, s1, e1, few, ok⟩
        · rintro σ H1 ⟨ms, r, v5, v6, v7, v8, rfl, r0, s1, e1, few, ok⟩
          exact ⟨ms, _, _, _, _, _, _, rfl, s1, e1, few, ok⟩
      · have hlm : (ms.map V.int).length = ms.length := List.length_map ..
        refine ⟨_, rfl, l, _, rfl, .inl (SqL.of e1), _, rfl, _, _, rfl, rfl, _, rfl, ?_⟩
        rw [hlm]
        refine ite2 (fun c2 => ?_) (fun c2 => ?_)
        · have c2 : (ms.length : Int) < many := by simpa using c2
          refine ⟨_, rfl, _, _, rfl, rfl, .inr ⟨by decide, by decide⟩, _, rfl, _, _, rfl, rfl, .inr ⟨by decide, by decide⟩, _, _, rfl, rfl, _, _, rfl, rfl, .inl ⟨_, rfl, _, _, rfl, rfl, (by show (0 : Int) < 2147483647; decide), ?_⟩⟩
          refine ⟨_, rfl, .inl ⟨rfl, _, SqL.of e1⟩, _, rfl, _, _, rfl, rfl, .inr ⟨by decide, by decide⟩, _, rfl, _, _, rfl, rfl, .inl ⟨by decide, by decide⟩, _, _, rfl, rfl, _, _, rfl, rfl, .inl ⟨_, rfl, _, _, rfl, rfl, (by show (0 : Int) < 2147483647; decide), _, _, rfl, rfl, ⟨by decide, by decide⟩, l, _, _, rfl, rfl, e1, ?_, ?_⟩⟩
          · rw [hlm]
            exact Nat.lt_of_le_of_lt (by omega : ms.length ≤ 4000) (by decide)
          · refine (fun (pp : _ ∧ _ ∧ _) => ⟨ms ++ [_], _, _, _, _, _, _, rfl, pp.1, pp.2.1, (by rw [List.length_append, List.length_singleton]; omega), pp.2.2⟩) (push H' ms _ s1 ok (by omega))
        · exact ⟨ms, _, _, _, _, _, _, rfl, s1, e1, few, ok⟩
    · rintro σ H' ⟨ms, v3, v4, v5, v6, v7, v8, rfl, s1, e1, few, ok⟩
      have hlm : (ms.map V.int).length = ms.length := List.length_map ..
      refine ⟨_, rfl, l, _, rfl, .inl (SqL.of e1), ?_⟩
      rw [hlm]
      refine ⟨_, rfl, a, _, rfl, .inl (s1.seq hS), _, _, rfl, rfl, ?_⟩
      rw [hls]
      have mx : ∀ (d : Int), (if d > 0 then d else 0) = (d.toNat : Int) := fun d => by split <;> omega
      refine ⟨_, rfl, _, rfl, _, _, rfl, rfl, _, _, rfl, ?_⟩
      have lb : ms.length ≤ 4000 := by omega
      refine ⟨((many - (ms.length : Int)).toNat : Int), congrArg (fun z => [V.int z]) (mx _), by omega, by omega, for_range (fun i σ H' => ∃ (ms' : List Int) (la : Int) (v3 v4 v5 v6 : Option V), σ = [some (.ref a), some (.int many), some (.ref l), v3, v4, v5, v6, some (.int (ms.length : Int)), some (.int la)] ∧ Same H H' ∧ H' l = some (.lst (ms'.map V.int)) ∧ ms'.length = ms.length + i ∧ (∀ z ∈ ms', 0 ≤ z ∧ z < 4294967296))
        ⟨ms, _, _, _, _, _, rfl, s1, e1, rfl, ok⟩ ?_ ?_⟩
      · rintro i σ H1 hi ⟨ms', la, v3, v4, v5, v6, rfl, s1, e1, ln, ok⟩
        have hlm' : (ms'.map V.int).length = ms'.length := List.length_map ..
        have rest : ∀ la v4 v5 v6, _ := fun (la : Int) (v4 v5 v6 : Option V) => (fun (pp : _ ∧ _ ∧ _) => (⟨ms' ++ [_], _, _, _, _, _, rfl, pp.1, pp.2.1, (by rw [List.length_append, List.length_singleton]; omega), pp.2.2⟩ : ∃ (ms'' : List Int) (la' : Int) (w3 w4 w5 w6 : Option V), [some (.ref a), some (.int many), some (.ref l), some (.int ((0 : Int) + (i : Int))), v4, v5, v6, some (.int (ms.length : Int)), some (.int ((la * 48271 + ((0 : Int) + (i : Int))) % 2147483647))] = [some (.ref a), some (.int many), some (.ref l), w3, w4, w5, w6, some (.int (ms.length : Int)), some (.int la')] ∧ Same H (upd H1 l (.lst (ms'.map V.int ++ [.int ((la * 48271 + ((0 : Int) + (i : Int))) % 2147483647 / 7)]))) ∧ (upd H1 l (.lst (ms'.map V.int ++ [.int ((la * 48271 + ((0 : Int) + (i : Int))) % 2147483647 / 7)]))) l = some (.lst (ms''.map V.int)) ∧ ms''.length = ms.length + (i + 1) ∧ (∀ z ∈ ms'', 0 ≤ z ∧ z < 4294967296))) (push H1 ms' ((la * 48271 + ((0 : Int) + (i : Int))) % 2147483647 / 7) s1 ok (by omega))
        refine ⟨_, rfl, _, _, rfl, rfl, _, rfl, ?_⟩
        have last : ∀ la v4 v5 v6, (fun σ H' => ∃ (ms' : List Int) (la : Int) (v3 v4 v5 v6 : Option V), σ = [some (.ref a), some (.int many), some (.ref l), v3, v4, v5, v6, some (.int (ms.length : Int)), some (.int la)] ∧ Same H H' ∧ H' l = some (.lst (ms'.map V.int)) ∧ ms'.length = ms.length + (i + 1) ∧ (∀ z ∈ ms', 0 ≤ z ∧ z < 4294967296)) [some (.ref a), some (.int many), some (.ref l), some (.int ((0 : Int) + (i : Int))), v4, v5, v6, some (.int (ms.length : Int)), some (.int ((la * 48271 + ((0 : Int) + (i : Int))) % 2147483647))] (upd H1 l (.lst (ms'.map V.int ++ [.int ((la * 48271 + ((0 : Int) + (i : Int))) % 2147483647 / 7)]))) := rest
        refine ite2 (fun c1 => ?_) (fun c1 => ?_)
        · have c1 : (0 : Int) < (ms.length : Int) := by simpa using c1
          have q0 := Int.emod_nonneg ((0 : Int) + (i : Int)) (show (ms.length : Int) ≠ 0 by omega)
          have q1 := Int.emod_lt_of_pos ((0 : Int) + (i : Int)) c1
          have lt : (((0 : Int) + (i : Int)) % (ms.length : Int)).toNat < ms'.length := by omega
          refine ⟨_, rfl, _, rfl, _, rfl, _, rfl, _, _, rfl, rfl, c1, .inl ⟨l, _, _, _, rfl, rfl, SqL.of e1, atI_get? q0 (List.getElem?_eq_getElem lt), _, _, rfl, rfl, ?_⟩⟩
          refine ⟨_, rfl, _, _, rfl, rfl, .inr ⟨by decide, by decide⟩, _, rfl, _, _, rfl, rfl, .inl ⟨_, rfl, _, _, rfl, rfl, (by show (0 : Int) < 2147483647; decide), ?_⟩⟩
          refine ⟨_, rfl, .inl ⟨rfl, _, SqL.of e1⟩, _, rfl, _, _, rfl, rfl, ⟨by decide, by decide⟩, l, _, _, rfl, rfl, e1, ?_, last _ _ _ _⟩
          rw [hlm']
          exact Nat.lt_of_le_of_lt (by omega : ms'.length ≤ 4000) (by decide)
        · refine ⟨_, rfl, _, _, rfl, rfl, .inr ⟨by decide, by decide⟩, _, rfl, _, _, rfl, rfl, .inl ⟨_, rfl, _, _, rfl, rfl, (by show (0 : Int) < 2147483647; decide), ?_⟩⟩
          refine ⟨_, rfl, .inl ⟨rfl, _, SqL.of e1⟩, _, rfl, _, _, rfl, rfl, ⟨by decide, by decide⟩, l, _, _, rfl, rfl, e1, ?_, last _ _ _ _⟩
          rw [hlm']
          exact Nat.lt_of_le_of_lt (by omega : ms'.length ≤ 4000) (by decide)
      · rintro σ H1 ⟨ms', la, v3, v4, v5, v6, rfl, s1, e1, ln, ok⟩
        have full : (ms'.length : Int) = many := by omega
        have hcut : cutV (ms'.map V.int) none (some many) = ms'.map V.int := by
          rw [← full]
          show ((ms'.map V.int).drop 0).take (HT.sIx (ms'.map V.int).length (ms'.map V.int).length (some ((ms'.length : Nat) : Int)) - 0) = _
          rw [HT.sIx_nat, List.drop_zero, Nat.sub_zero, List.length_map, Nat.min_self]
          exact List.take_of_length_le (by rw [List.length_map]; exact Nat.le_refl _)
        refine ⟨_, rfl, _, rfl, many, rfl, l, _, rfl, SqL.of e1, fun d hd => ?_⟩
        rw [hcut]
        exact fin ms' _ d ⟨full, ok⟩ (same_upd s1 hd) (s1.free hd) upd_same
end
end K61

set_option Elab.async false
set_option linter.all false
set_option maxRecDepth 100000
set_option maxHeartbeats 4000000
namespace K61
open PySem PySem.Spec PyProof.Rows L2 Mz
def spBelow (K : PySem.W.Frag) (Pt : Addr) : Sp := fun vs H Q _ => ∃ (a : Addr) (ns : List Int) (L : Int), vs = [.ref a, .int L] ∧ Ints K H a ns ∧ GxR.TabG H Pt ∧ ∀ H', Kp Pt H H' → Q (.bl (belowB ns L)) H'
def spRanks (K : PySem.W.Frag) (Pt : Addr) : Sp := fun vs H Q _ => ∃ (a : Addr) (rs : List Int), vs = [.ref a] ∧ SqT K H a (rs.map V.int) ∧ GxR.TabG H Pt ∧ ∀ H', Kp Pt H H' → Q (.bl (ranksB rs)) H'
def spIsTree (K : PySem.W.Frag) (Pt : Addr) : Sp := fun vs H Q _ => ∃ (r t : Addr) (rs ts : List Int), vs = [.ref r, .ref t] ∧ SqT K H r (rs.map V.int) ∧ SqL K H t (ts.map V.int) ∧ GxR.TabG H Pt ∧ ∀ H', Kp Pt H H' → Q (.bl (treeB rs ts)) H'
section
variable {P : Program} {w : World} {K : PySem.W.Frag} {mg : Str → Option Value} {base : Heap} {A : Ads} {c Pt : Addr}
theorem ok_below (T : Txt K mg A) (TB : GxR.TabB base mg c Pt) (hc : A.d_are_below.code = .ref c) : FnOk P w K mg base CX0 1 A.a_are_below A.d_are_below ["numbers", "limit"] (spBelow K Pt) := by
  refine okC T.F_are_below sc_are_below (fun vs H Q E h => ?_) (fun Ar outer s H vs Q E hr h => ?_)
  · obtain ⟨_, _, _, rfl, _⟩ := h
    rfl
  · obtain ⟨a, ns, L, rfl, hS, hT, fin⟩ := h
    refine ⟨_, (pss_one (ps_ret (pe_allQ (G := GBelow 1) hr (by rfl) T.n_all TB hc (by exact ⟨rfl, rfl, by decide, rfl, rfl, fun y hy e => by (simp only [List.mem_cons, List.not_mem_nil, or_false] at hy; rcases hy with rfl | rfl | rfl <;> first | (cases e; done) | exact cell_has rfl)⟩) (pv 0) (by exact elt_below rfl rfl rfl rfl rfl rfl) (fun _ => rfl)))), ?_⟩
    refine ⟨_, rfl, a, ns.map V.int, (fun v => match v with | .int n => decide (0 ≤ n) && decide (n < L) | _ => false), rfl, hS, hT, fun z hz => ?_, fun H2 hH2 => ?_⟩
    · obtain ⟨n, _, rfl⟩ := List.mem_map.mp hz
      exact ⟨n, L, rfl, rfl, rfl⟩
    · have e : (ns.map V.int).all (fun v => match v with | .int n => decide (0 ≤ n) && decide (n < L) | _ => false) = belowB ns L := by
        rw [List.all_map]
        rfl
      rw [e]
      exact fin H2 (.ofTabbed hH2)
theorem ok_ranks (T : Txt K mg A) (TB : GxR.TabB base mg c Pt) (hc : A.d_are_below.code = .ref c) : FnOk P w K mg base CX0 2 A.a_are_ranks A.d_are_ranks ["ranks"] (spRanks K Pt) := by
  have G_are_below : FnOk P w K mg base CX0 1 A.a_are_below A.d_are_below ["numbers", "limit"] (spBelow K Pt) := ok_below T TB hc
  refine T.F_are_ranks.ok sc_are_ranks (fun vs H Q E h => ?_) (fun cdv Ar outer s H vs Q E hr h => ?_)
  · obtain ⟨_, _, rfl, _⟩ := h
    rfl
  · obtain ⟨a, rs, rfl, hS, hT, fin⟩ := h
    have hr_are_below : Room 1 _ := hr
    refine ⟨_, (pss_one (ps_ret (pe_and (pe_chain op_le op_le pe_int (pe_callB call_len_seq (by rfl) T.n_len PySem.boot_len (pa_cons (pv 0) pa_nil)) (C8.pe_gc (v := .int 5) (by rfl) T.c_MAX_SYMBOLS)) (pe_and (pe_call G_are_below hr_are_below (by rfl) T.g_are_below T.F_are_below.kp T.b_are_below .nil pass0 (pa_cons (pv 0) (pa_cons (pe_op op_add (C8.pe_gc (v := .int 2) (by rfl) T.c_MAX_RANK) pe_int) pa_nil))) (pe_one (pe_cmpR op_in_seq pe_int (pv 0) rfl)))))), ?_⟩
    have f0 := fin H (.refl hT)
    refine ⟨_, rfl, a, _, rfl, .inr hS, _, _, rfl, rfl, _, rfl, ?_⟩
    rw [List.length_map]
    have bad : ranksB rs = false → Q (.bl false) H := fun z => by
      rw [z] at f0
      exact f0
    refine ite2 (fun c1 => ?_) (fun c1 => ?_)
    rotate_left
    · refine ⟨_, rfl, iteF ?_⟩
      refine bad ?_
      have : ¬ 1 ≤ rs.length := fun z => c1 (decide_eq_true (by omega))
      unfold ranksB
      rw [decide_eq_false this]
      rfl
    have l1 : 1 ≤ rs.length := by
      have := of_decide_eq_true c1
      omega
    refine ⟨_, _, rfl, rfl, _, rfl, ?_⟩
    refine ite2 (fun c2 => ?_) (fun c2 => ?_)
    rotate_left
    · refine bad ?_
      have : ¬ rs.length ≤ 5 := fun z => c2 (decide_eq_true (by omega))
      unfold ranksB
      rw [decide_eq_false this, Bool.and_false]
      rfl
    have l5 : rs.length ≤ 5 := by
      have := of_decide_eq_true c2
      omega
    refine ⟨_, rfl, _, _, rfl, rfl, a, rs, 3, rfl, .inr hS, hT, fun H1 k1 => ?_⟩
    have f1 := fin H1 k1
    unfold ranksB at f1
    rw [decide_eq_true l1, decide_eq_true l5] at f1
    refine ⟨_, rfl, ?_⟩
    cases hb : belowB rs 3 with
    | false =>
      rw [hb] at f1
      exact iteF f1
    | true =>
      rw [hb] at f1
      refine iteT ?_
      refine ⟨_, rfl, a, _, rfl, .inr (k1.seqT hT hS), rfl, flatI rs, ?_⟩
      rw [inVI]
      exact f1
theorem ok_istree (T : Txt K mg A) (TB : GxR.TabB base mg c Pt) (hc : A.d_are_below.code = .ref c) : FnOk P w K mg base CX0 2 A.a_is_tree A.d_is_tree ["ranks", "tree"] (spIsTree K Pt) := by
  have G_are_below : FnOk P w K mg base CX0 1 A.a_are_below A.d_are_below ["numbers", "limit"] (spBelow K Pt) := ok_below T TB hc
  refine T.F_is_tree.ok sc_is_tree (fun vs H Q E h => ?_) (fun cdv Ar outer s H vs Q E hr h => ?_)
  · obtain ⟨_, _, _, _, rfl, _⟩ := h
    rfl
  · obtain ⟨r, t, rs, ts, rfl, hR, hS, hT, fin⟩ := h
    have hr_are_below : Room 1 _ := hr
    refine ⟨_, (pss_cons (ps_if (PW.pt (pw_or (pt_cmpR op_gt (pe_callB call_len_seq (by rfl) T.n_len PySem.boot_len (pa_cons (pv 1) pa_nil)) (C8.pe_gc (v := .int 400) (by rfl) T.c_MAX_NODES) (nomark _)) (pw_or1 (pt_not (pt_val (pe_call G_are_below hr_are_below (by rfl) T.g_are_below T.F_are_below.kp T.b_are_below .nil pass0 (pa_cons (pv 1) (pa_cons (pe_callB call_len_seq (by rfl) T.n_len PySem.boot_len (pa_cons (pv 0) pa_nil)) pa_nil)))))))) (pss_one (ps_ret pe_bl)) pss_nil)
      (pss_cons (ps_set (i := 2) sc_is_tree.nd rfl (Or.inl rfl) pe_int)
      (pss_cons (ps_for PassesOwn.never rfl (pi_list (pv 1)) (pg_name (i := 3) sc_is_tree.nd rfl (Or.inl rfl))
        (pss_cons (ps_if (pt_cmpR op_eq (pv 2) pe_int (nomark _)) (pss_one (ps_ret pe_bl)) pss_nil)
          (pss_one (ps_aug (i := 2) sc_is_tree.nd rfl (Or.inl rfl) (pe_op op_sub (pe_ix (r := rIx K) ix_seq (pv 0) (pv 3) (fun _ _ => rfl)) pe_int) ip_add))))
      (pss_one (ps_ret (pe_cmpR op_eq (pv 2) pe_int (nomark _))))))), ?_⟩
    have f0 := fin H (.refl hT)
    refine ⟨_, rfl, t, _, rfl, .inl hS, _, _, rfl, rfl, _, rfl, ?_⟩
    rw [List.length_map]
    refine ite2 (fun c1 => ?_) (fun c1 => ?_)
    · have : treeB rs ts = false := by
        have : ¬ ts.length ≤ 400 := by
          have : (400 : Int) < ts.length := by simpa using c1
          omega
        simp [treeB, this]
      rw [this] at f0
      exact f0
    have l4 : ts.length ≤ 400 := by
      have : ¬ (400 : Int) < ts.length := by simpa using c1
      omega
    refine ⟨_, rfl, _, rfl, r, _, rfl, .inr hR, ?_⟩
    rw [List.length_map]
    refine ⟨t, ts, _, rfl, .inl hS, hT, fun H1 k1 => ?_⟩
    refine ⟨_, rfl, ?_⟩
    cases hb : belowB ts rs.length with
    | false =>
      refine iteT ?_
      have f1 := fin H1 k1
      have : treeB rs ts = false := by simp [treeB, hb]
      rw [this] at f1
      exact f1
    | true =>
      refine iteF ?_
      have hR1 := k1.seqT hT hR
      have hS1 := k1.seq hT hS
      have fe := fin H1 k1
      have te : treeB rs ts = (lackG rs ts 1 == some 0) := by simp [treeB, hb, l4]
      rw [te] at fe
      refine ⟨_, rfl, t, rfl, ⟨_, hS1⟩, for_list (K := K) (a := t) (xs := ts.map V.int) (fun i σ H' => ∃ (n : Int) (v : Option V), σ = [some (.ref r), some (.ref t), some (.int n), v] ∧ H' = H1 ∧ lackG rs ts 1 = lackG rs (ts.drop i) n)
        ⟨1, none, rfl, rfl, rfl⟩ (fun i σ H' _ ⟨_, _, _, e, _⟩ => by rw [e]; exact hS1) ?_ ?_⟩
      · rintro i y σ H' hi ⟨n, v, rfl, rfl, e⟩
        obtain ⟨z, hz, rfl⟩ := ofV hi
        obtain ⟨d1, d2⟩ := lack_drop hz e
        obtain ⟨z0, z1⟩ := below_at hb hz
        refine ⟨_, rfl, rfl, _, rfl, ?_⟩
        refine ite2 (fun c0 => ?_) (fun c0 => ?_)
        · have n0 : n = 0 := by simpa using c0
          rw [d1 n0] at fe
          exact fe
        · have n0 : n ≠ 0 := by simpa using c0
          refine ⟨_, rfl, _, rfl, _, rfl, .inr (.inl ⟨r, _, z, _, rfl, rfl, hR1, atI_get? z0 (getD_at z0 z1), ?_⟩)⟩
          refine ⟨_, _, rfl, rfl, _, _, rfl, rfl, ?_⟩
          exact ⟨_, _, rfl, rfl, d2 n0⟩
      · rintro σ H' ⟨n, v, rfl, rfl, e⟩
        rw [List.length_map, List.drop_length] at e
        refine ⟨_, rfl, rfl, ?_⟩
        have e2 : (lackG rs ts 1 == some 0) = decide (V.int n = V.int 0) := by
          rw [e, Mz.dec_intB]
          rfl
        rw [e2] at fe
        exact fe
end
def spLawRanks : Sp := fun vs H Q _ => ∃ n : Int, vs = [.int n] ∧ 0 ≤ n ∧ ∀ (rs : List Int) (q : Addr) (H' : Hp), ranksB rs = true → Same H H' → H q = none → (∃ o : Obj, o.dict = none ∧ H' q = some (.frz o (.tup (rs.map V.int)))) → Q (.ref q) H'
/-- numbers to draw by -/
structure Pos (ms : List Int) : Prop where
  ne : 0 < ms.length
  ok : ∀ z ∈ ms, 0 ≤ z
theorem Pos.at_ {ms : List Int} (h : Pos ms) (i : Int) : ∃ z, ms[(i % (ms.length : Int)).toNat]? = some z ∧ 0 ≤ z ∧ 0 ≤ i % (ms.length : Int) := by
  obtain ⟨z, e, _, e0⟩ := pk_at i h.ne
  exact ⟨z, e, h.ok z (List.mem_of_getElem? e), e0⟩
def spDrawn (K : PySem.W.Frag) : Sp := fun vs H Q _ => ∃ (r p : Addr) (rs ms : List Int) (most : Int), vs = [.ref r, .ref p, .int most] ∧ SqT K H r (rs.map V.int) ∧ ranksB rs = true ∧ SqL K H p (ms.map V.int) ∧ Pos ms ∧ 1 ≤ most ∧ most ≤ 100 ∧
  ∀ (ts : List Int) (q : Addr) (H' : Hp), treeB rs ts = true → (ts.length : Int) ≤ most → 0 < ts.length → Same H H' → H q = none → H' q = some (.lst (ts.map V.int)) → Q (.ref q) H'
theorem lack_snoc {rs : List Int} : ∀ {t : List Int} {m n s : Int}, lackG rs t m = some n → n ≠ 0 → lackG rs (t ++ [s]) m = some (n + (rs.getD s.toNat 0 - 1))
  | [], m, n, s, h, h0 => by
    have e : m = n := Option.some.inj h
    subst e
    show lackG rs [s] m = _
    rw [lackG, if_neg h0, lackG]
  | a :: t, m, n, s, h, h0 => by
    rw [lackG] at h
    show lackG rs (a :: (t ++ [s])) m = _
    rw [lackG]
    by_cases z : m = 0
    · rw [if_pos z] at h
      cases h
    · rw [if_neg z] at h ⊢
      exact lack_snoc h h0
section
variable {P : Program} {w : World} {K : PySem.W.Frag} {mg : Str → Option Value} {base : Heap} {A : Ads} {c Pt : Addr}
theorem ok_lawranks (T : Txt K mg A) : FnOk P w K mg base CX0 1 A.a_law_ranks A.d_law_ranks ["number"] spLawRanks := by
  refine T.F_law_ranks.ok sc_law_ranks (fun vs H Q E h => ?_) (fun cdv Ar outer s H vs Q E hr h => ?_)
  · obtain ⟨_, rfl, _⟩ := h
    rfl
  · obtain ⟨n, rfl, n0, fin⟩ := h
    refine ⟨_, (pss_cons (ps_setLc (i := 1) (own := [("k", 2)]) (g := (gName 2)) (tt := tYes) rfl sc_law_ranks.nd rfl rfl (sw_true rfl rfl rfl (by decide +kernel)) (pi_range1 (by rfl) T.n_range (pa_cons (pe_op op_add pe_int (pe_op op_mod (pv 0) pe_int)) pa_nil)) (blkOk_by (N := ["number", "ranks", "k"]) (sc := defScope s_law_ranks) (by decide +kernel)) (fun _ _ _ _ _ => (pg_name (i := 2) sc_law_ranks.nd rfl (Or.inl rfl))) (fun _ _ _ _ _ => pts_nil) (fun _ _ _ _ _ => (pe_op op_mod (pe_op op_fdiv (pv 0) (pe_op op_add pe_int (pe_op op_mul pe_int (pv 2)))) pe_int)))
      (pss_cons (ps_if (pt_cmpR op_notIn_seq pe_int (pv 1) rfl) (pss_one (ps_asg pe_int (pg_sub (pv 1) (pe_op op_mod (pe_op op_fdiv (pv 0) pe_int) (pe_callB call_len_seq (by rfl) T.n_len PySem.boot_len (pa_cons (pv 1) pa_nil))) set_list))) pss_nil)
      (pss_one (ps_ret (pe_callTy call_tupleF (by rfl) T.n_tuple (by decide +kernel) (pa_cons (pv 1) pa_nil)))))), ?_⟩
    refine ⟨_, rfl, _, _, rfl, rfl, (by show (0 : Int) < 5; decide), _, _, rfl, rfl, ?_⟩
    have m0 : 0 ≤ n % 5 := Int.emod_nonneg _ (by decide)
    have m1 : n % 5 < 5 := Int.emod_lt_of_pos _ (by decide)
    refine ⟨_, rfl, by omega, by omega, ?_⟩
    intro D hD
    refine lc_range (fun t H1 => ∃ u : List Int, H1 = upd H D (.lst (u.map V.int)) ∧ u.length = t ∧ ∀ z ∈ u, 0 ≤ z ∧ z < 3) ⟨[], rfl, rfl, fun z hz => absurd hz (by simp)⟩ ?_ ?_
    · rintro t H1 ht ⟨u, rfl, d1, d2⟩
      refine ⟨rfl, ?_⟩
      refine ⟨_, rfl, _, rfl, _, _, rfl, rfl, .inl ⟨by decide, by decide⟩, _, _, rfl, rfl, _, _, rfl, rfl, ⟨by omega, by omega⟩, _, _, rfl, rfl, (by show (0 : Int) < 3; decide), ?_⟩
      have e0 := Int.emod_nonneg (n / (1 + 4 * (0 + (t : Int)))) (show (3 : Int) ≠ 0 by decide)
      have e1 := Int.emod_lt_of_pos (n / (1 + 4 * (0 + (t : Int)))) (show (0 : Int) < 3 by decide)
      refine ⟨_, upd_same, ?_, u ++ [_], (by rw [upd_upd, List.map_append]; rfl), (by rw [List.length_append, d1]; rfl), ?_⟩
      · rw [List.length_map]
        exact Nat.lt_of_le_of_lt (by omega : u.length ≤ 4) (by decide)
      · intro z hz
        rcases List.mem_append.mp hz with e | e
        · exact d2 z e
        · rw [List.mem_singleton.mp e]
          exact ⟨e0, e1⟩
    · rintro H1 ⟨u, rfl, d1, d2⟩
      have l1 : 1 ≤ u.length := by omega
      have l5 : u.length ≤ 5 := by omega
      have hU : (upd H D (.lst (u.map V.int))) D = some (.lst (u.map V.int)) := upd_same
      have last : ∀ (rs : List Int) (H2 : Hp), ranksB rs = true → Same H H2 → H2 D = some (.lst (rs.map V.int)) → ∃ p ys, [V.ref D] = [V.ref p] ∧ SqL K H2 p ys ∧ ∀ (l : Addr) (o : Obj), H2 l = none → o.dict = none → Q (.ref l) (upd H2 l (.frz o (.tup ys))) := by
        intro rs H2 q1 q2 q3
        exact ⟨D, _, rfl, SqL.of q3, fun l o hl nd => fin rs l _ q1 (same_upd q2 hl) (q2.free hl) ⟨o, nd, upd_same⟩⟩
      refine ⟨_, rfl, D, _, rfl, .inl (SqL.of hU), rfl, flatI u, _, rfl, ?_⟩
      rw [inVI]
      refine ite2 (fun c1 => ?_) (fun c1 => ?_)
      · have q0 := Int.emod_nonneg (n / 3) (show (u.length : Int) ≠ 0 by omega)
        have q1 := Int.emod_lt_of_pos (n / 3) (show 0 < (u.length : Int) by omega)
        refine ⟨_, rfl, _, rfl, _, _, rfl, rfl, ⟨by decide, by decide⟩, _, rfl, D, _, rfl, .inl (SqL.of hU), ?_⟩
        rw [List.length_map]
        refine ⟨_, _, rfl, rfl, (by show 0 < (u.length : Int); omega), D, _, _, (n / 3 % (u.length : Int)).toNat, rfl, rfl, hU, ?_, ?_⟩
        · rw [List.length_map]
          exact ixN_inR q0 q1
        · have j1 : (n / 3 % (u.length : Int)).toNat < u.length := by omega
          generalize (n / 3 % (u.length : Int)).toNat = j at j1
          rw [← List.map_set, upd_upd]
          refine (fun z => ⟨_, rfl, z⟩) (last _ _ (ranks_iff.mpr ⟨?_, ?_, fun z hz => ?_, mem_set_self j1⟩) (same_upd (Same.refl _) hD) upd_same)
          · rw [List.length_set]
            exact l1
          · rw [List.length_set]
            exact l5
          · rcases mem_set_or hz with e | e
            · exact d2 z e
            · rw [e]
              decide
      · refine (fun z => ⟨_, rfl, z⟩) (last _ _ (ranks_iff.mpr ⟨l1, l5, d2, ?_⟩) (same_upd (Same.refl _) hD) upd_same)
        by_cases z : (0 : Int) ∈ u
        · exact z
        · exact absurd (by simp [z]) c1
theorem ok_drawn (T : Txt K mg A) : FnOk P w K mg base CX0 1 A.a_law_drawn_tree A.d_law_drawn_tree ["ranks", "numbers", "most"] (spDrawn K) := by
  refine T.F_law_drawn_tree.ok sc_law_drawn_tree (fun vs H Q E h => ?_) (fun cdv Ar outer s H vs Q E hr h => ?_)
  · obtain ⟨_, _, _, _, _, rfl, _⟩ := h
    rfl
  · obtain ⟨r, p, rs, ms, most, rfl, hR, hrs, hS, hm, m1, m2, fin⟩ := h
    refine ⟨_, (pss_cons (ps_setLc (i := 4) (own := [("symbol", 3)]) (g := (gName 3)) rfl sc_law_drawn_tree.nd rfl rfl (sw_true rfl rfl rfl (by decide +kernel)) (pi_range1 (by rfl) T.n_range (pa_cons (pe_callB call_len_seq (by rfl) T.n_len PySem.boot_len (pa_cons (pv 0) pa_nil)) pa_nil)) (blkOk_by (N := ["ranks", "numbers", "most", "symbol", "leaves", "tree", "need", "k"]) (sc := defScope s_law_drawn_tree) (by decide +kernel)) (fun _ _ _ _ _ => (pg_name (i := 3) sc_law_drawn_tree.nd rfl (Or.inl rfl))) (fun _ _ _ _ _ => (pts_one (pt_cmpR op_eq (pe_ix (r := rIx K) ix_seq (pv 0) (pv 3) (fun _ _ => rfl)) pe_int (nomark _)))) (fun _ _ _ _ _ => (pv 3)))
      (pss_cons (ps_set (i := 5) sc_law_drawn_tree.nd rfl (Or.inl rfl) (pe_lst pa_nil))
      (pss_cons (ps_set (i := 6) sc_law_drawn_tree.nd rfl (Or.inl rfl) pe_int)
      (pss_cons (ps_for PassesOwn.never rfl (pi_range1 (by rfl) T.n_range (pa_cons (pv 2) pa_nil)) (pg_name (i := 7) sc_law_drawn_tree.nd rfl (Or.inl rfl))
        (pss_one (ps_if (pt_cmpR op_gt (pv 6) pe_int (nomark _)) (pss_cons (ps_set (i := 3) sc_law_drawn_tree.nd rfl (Or.inl rfl) (pe_op op_mod (pe_ix (r := rIx K) ix_seq (pv 1) (pe_op op_mod (pv 7) (pe_callB call_len_seq (by rfl) T.n_len PySem.boot_len (pa_cons (pv 1) pa_nil))) (fun _ _ => rfl)) (pe_callB call_len_seq (by rfl) T.n_len PySem.boot_len (pa_cons (pv 0) pa_nil))))
              (pss_cons (ps_if (pt_cmpR op_gt (pe_op op_add (pv 6) (pe_ix (r := rIx K) ix_seq (pv 0) (pv 3) (fun _ _ => rfl))) (pe_op op_sub (pv 2) (pv 7)) (nomark _)) (pss_one (ps_set (i := 3) sc_law_drawn_tree.nd rfl (Or.inl rfl) (pe_ix (r := rIx K) ix_seq (pv 4) (pe_op op_mod (pe_op op_fdiv (pe_ix (r := rIx K) ix_seq (pv 1) (pe_op op_mod (pv 7) (pe_callB call_len_seq (by rfl) T.n_len PySem.boot_len (pa_cons (pv 1) pa_nil))) (fun _ _ => rfl)) pe_int) (pe_callB call_len_seq (by rfl) T.n_len PySem.boot_len (pa_cons (pv 4) pa_nil))) (fun _ _ => rfl)))) pss_nil)
              (pss_cons (ps_expr (pe_bm PySem.F.plainAttrs_list PySem.F.slot_list_append PySem.F.type_list_append mt_append (pv 5) (pa_cons (pv 3) pa_nil)))
              (pss_one (ps_set (i := 6) sc_law_drawn_tree.nd rfl (Or.inl rfl) (pe_op op_add (pe_op op_sub (pv 6) pe_int) (pe_ix (r := rIx K) ix_seq (pv 0) (pv 3) (fun _ _ => rfl)))))))) pss_nil)))
      (pss_one (ps_ret (pv 5))))))), ?_⟩
    obtain ⟨r1, r5, rb, r0⟩ := ranks_iff.mp hrs
    have lR : (rs.map V.int).length = rs.length := List.length_map ..
    refine ⟨_, rfl, r, _, rfl, .inr hR, ?_⟩
    rw [lR]
    refine ⟨rs.length, rfl, by omega, by omega, ?_⟩
    intro D hD
    refine lc_range (fun t H1 => ∃ u : List Int, H1 = upd H D (.lst (u.map V.int)) ∧ u.length ≤ t ∧ (∀ z ∈ u, 0 ≤ z ∧ z < (rs.length : Int) ∧ rs.getD z.toNat 0 = 0) ∧ (∀ i : Nat, i < t → rs[i]? = some 0 → (i : Int) ∈ u)) ⟨[], rfl, Nat.le_refl _, (fun z hz => absurd hz (by simp)), fun i hi => absurd hi (by omega)⟩ ?_ ?_
    · rintro t H1 ht ⟨u, rfl, d1, d2, d3⟩
      have sD : Same H (upd H D (.lst (u.map V.int))) := same_upd (Same.refl _) hD
      have tl : t < rs.length := ht
      have et : ((0 : Int) + (t : Int)).toNat = t := by omega
      have e1 := getD_at (rs := rs) (z := (0 : Int) + (t : Int)) (by omega) (by omega)
      refine ⟨rfl, ?_⟩
      refine ⟨_, rfl, _, rfl, .inr (.inl ⟨r, _, _, _, rfl, rfl, same_seqT sD hR, atI_get? (by omega) e1, ?_⟩)⟩
      refine ⟨rfl, _, rfl, ?_⟩
      rw [dec_intD]
      refine ite2 (fun c1 => ?_) (fun c1 => ?_)
      · have c1 := of_decide_eq_true c1
        refine ⟨_, rfl, _, upd_same, ?_, u ++ [(0 : Int) + (t : Int)], (by rw [upd_upd, List.map_append]; rfl), (by rw [List.length_append]; show u.length + 1 ≤ _; omega), fun z hz => ?_, fun i hi h0 => ?_⟩
        · rw [List.length_map]
          exact Nat.lt_of_le_of_lt (by omega : u.length ≤ 10) (by decide)
        · rcases List.mem_append.mp hz with e | e
          · exact d2 z e
          · rw [List.mem_singleton.mp e]
            exact ⟨by omega, by omega, c1⟩
        · rcases Nat.lt_or_ge i t with q | q
          · exact List.mem_append.mpr (.inl (d3 i q h0))
          · have : i = t := by omega
            subst this
            exact List.mem_append.mpr (.inr (by rw [List.mem_singleton]; omega))
      · refine ⟨u, rfl, by omega, d2, fun i hi h0 => ?_⟩
        rcases Nat.lt_or_ge i t with q | q
        · exact d3 i q h0
        · have : i = t := by omega
          subst this
          rw [et] at c1
          rw [et, h0] at e1
          exact absurd (decide_eq_true (Option.some.inj e1).symm) c1
    · rintro H1 ⟨u, rfl, d1, d2, d3⟩
      have sD : Same H (upd H D (.lst (u.map V.int))) := same_upd (Same.refl _) hD
      have hU : (upd H D (.lst (u.map V.int))) D = some (.lst (u.map V.int)) := upd_same
      have un : 0 < u.length := by
        obtain ⟨i, hi⟩ := List.mem_iff_getElem?.mp r0
        exact List.length_pos_iff.mpr (List.ne_nil_of_mem (d3 i (List.getElem?_eq_some_iff.mp hi).1 hi))
      generalize upd H D (.lst (u.map V.int)) = H1 at *
      refine ⟨Nat.zero_le _, fun l hl => ?_⟩
      have lD : l ≠ D := fun z => by
        rw [z, hU] at hl
        cases hl
      have s0 := same_upd (o := .lst []) (Same.refl H1) hl
      have sH : ∀ {G : Hp}, Same H1 G → Same H G := fun q => sD.trans q
      refine ⟨_, rfl, most.toNat, by rw [Int.toNat_of_nonneg (by omega)], by omega, by omega, for_range (fun k σ H' => ∃ (ts : List Int) (need : Int) (v3 v7 : Option V), σ = [some (.ref r), some (.ref p), some (.int most), v3, some (.ref D), some (.ref l), some (.int need), v7] ∧ Same H1 H' ∧ H' l = some (.lst (ts.map V.int)) ∧
          lackG rs ts 1 = some need ∧ (∀ z ∈ ts, 0 ≤ z ∧ z < (rs.length : Int)) ∧ 0 ≤ need ∧ need ≤ most - k ∧ ts.length ≤ k ∧ (0 < k → 0 < ts.length))
        ⟨[], 1, none, none, rfl, s0, upd_same, rfl, (fun z hz => absurd hz (by simp)), by decide, by omega, Nat.le_refl _, fun z => absurd z (by omega)⟩ ?_ ?_⟩
      · rintro k σ H' hk ⟨ts, need, v3, v7, rfl, s1, e1, lk, ok, n0, n1, tl, tp⟩
        refine ⟨_, rfl, _, _, rfl, rfl, _, rfl, ?_⟩
        refine ite2 (fun c1 => ?_) (fun c1 => ?_)
        · have np : 0 < need := of_decide_eq_true c1
          obtain ⟨z, hz, z0, i0⟩ := hm.at_ ((0 : Int) + (k : Int))
          have lS : (ms.map V.int).length = ms.length := List.length_map ..
          have pS := (sH s1).seq hS
          refine ⟨_, rfl, _, rfl, _, rfl, p, _, rfl, .inl pS, ?_⟩
          rw [lS]
          refine ⟨_, _, rfl, rfl, (by have := hm.ne; show 0 < (ms.length : Int); omega), .inl ⟨p, _, _, _, rfl, rfl, pS, atI_get? i0 hz, ?_⟩⟩
          refine ⟨_, rfl, r, _, rfl, .inr (same_seqT (sH s1) hR), ?_⟩
          rw [lR]
          refine ⟨_, _, rfl, rfl, (by show 0 < (rs.length : Int); omega), ?_⟩
          have y0 := Int.emod_nonneg z (show (rs.length : Int) ≠ 0 by omega)
          have y1 := Int.emod_lt_of_pos z (show 0 < (rs.length : Int) by omega)
          refine ⟨_, rfl, _, rfl, _, rfl, .inr (.inl ⟨r, _, _, _, rfl, rfl, same_seqT (sH s1) hR, atI_get? y0 (getD_at y0 y1), _, _, rfl, rfl, ?_⟩)⟩
          refine ⟨_, rfl, _, rfl, _, _, rfl, rfl, _, _, rfl, rfl, _, rfl, ?_⟩
          refine ite2 (fun c2 => ?pos) (fun c2 => ?neg)
          case' pos =>
            have x0 := Int.emod_nonneg (z / 7) (show (u.length : Int) ≠ 0 by omega)
            have x1 := Int.emod_lt_of_pos (z / 7) (show 0 < (u.length : Int) by omega)
            have ux : u[(z / 7 % (u.length : Int)).toNat]? = some u[(z / 7 % (u.length : Int)).toNat] := List.getElem?_eq_getElem (by omega)
            obtain ⟨w0, w1, w2⟩ := d2 _ (List.mem_of_getElem? ux)
            refine ⟨_, rfl, _, rfl, _, rfl, _, rfl, p, _, rfl, .inl pS, ?_⟩
            rw [lS]
            refine ⟨_, _, rfl, rfl, (by have := hm.ne; show 0 < (ms.length : Int); omega), .inl ⟨p, _, _, _, rfl, rfl, pS, atI_get? i0 hz, ?_⟩⟩
            have hD1 := SqL.of (K := K) (s1 _ _ hU)
            refine ⟨_, _, rfl, rfl, ⟨by decide, by decide⟩, _, rfl, D, _, rfl, .inl hD1, ?_⟩
            rw [show (u.map V.int).length = u.length from List.length_map ..]
            refine ⟨_, _, rfl, rfl, (by show 0 < (u.length : Int); omega), .inl ⟨D, _, _, _, rfl, rfl, hD1, atI_get? x0 ux, ?_⟩⟩
            generalize u[(z / 7 % (u.length : Int)).toNat] = y at *
            have g0 : 0 ≤ y := w0
            have g1 : y < rs.length := w1
            have g2 : need - 1 + rs.getD y.toNat 0 ≤ most - ((k : Int) + 1) := by omega
            have g3 : 0 ≤ rs.getD y.toNat 0 := by omega
          case' neg =>
            have g2 : need - 1 + rs.getD (z % (rs.length : Int)).toNat 0 ≤ most - ((k : Int) + 1) := by
              have : ¬ most - (0 + (k : Int)) < need + rs.getD (z % (rs.length : Int)).toNat 0 := fun q => c2 (decide_eq_true q)
              omega
            dsimp only
            generalize z % (rs.length : Int) = y at *
            have g0 : 0 ≤ y := y0
            have g1 : y < rs.length := y1
            have g3 : 0 ≤ rs.getD y.toNat 0 := (rb _ (List.mem_of_getElem? (getD_at g0 g1))).1
          all_goals
            refine ⟨_, rfl, .inl ⟨rfl, _, SqL.of e1⟩, _, rfl, l, _, _, rfl, rfl, e1, ?_, ?_⟩
            · rw [List.length_map]
              exact Nat.lt_of_le_of_lt (by omega : ts.length ≤ 100) (by decide)
            have s2 : Same H1 (upd H' l (.lst (ts.map V.int ++ [.int y]))) := same_set s1 hl
            have e2 : (upd H' l (.lst (ts.map V.int ++ [.int y]))) l = some (.lst ((ts ++ [y]).map V.int)) := by
              rw [upd_same, List.map_append]
              rfl
            generalize upd H' l (.lst (ts.map V.int ++ [.int y])) = H2 at *
            refine ⟨_, rfl, _, _, rfl, rfl, _, rfl, _, rfl, .inr (.inl ⟨r, _, _, _, rfl, rfl, same_seqT (sH s2) hR, atI_get? g0 (getD_at g0 g1), _, _, rfl, rfl, ?_⟩)⟩
            refine ⟨ts ++ [y], _, _, _, rfl, s2, e2, ?_, ?_, ?_, ?_, ?_, ?_⟩
            · rw [lack_snoc lk (by omega)]
              congr 1
              omega
            · intro x hx
              rcases List.mem_append.mp hx with q | q
              · exact ok x q
              · rw [List.mem_singleton.mp q]
                exact ⟨g0, g1⟩
            · omega
            · omega
            · rw [List.length_append]
              show ts.length + 1 ≤ _
              omega
            · intro _
              rw [List.length_append]
              show 0 < ts.length + 1
              omega
        · exact ⟨ts, need, _, _, rfl, s1, e1, lk, ok, n0, by
            have : need = 0 := by
              have : ¬ 0 < need := fun z => c1 (decide_eq_true z)
              omega
            omega, by omega, fun _ => by
            rcases Nat.eq_zero_or_pos k with q | q
            · subst q
              have : ts = [] := List.length_eq_zero_iff.mp (by omega)
              subst this
              have : (1 : Int) = need := Option.some.inj lk
              exact absurd (decide_eq_true (by omega)) c1
            · exact tp q⟩
      · rintro σ H' ⟨ts, need, v3, v7, rfl, s1, e1, lk, ok, n0, n1, tl, tp⟩
        have nz : need = 0 := by omega
        subst nz
        refine ⟨_, rfl, fin ts l H' ?_ (by omega) (tp (by omega)) (sD.trans s1) (sD.free hl) e1⟩
        unfold treeB
        rw [lk, below_iff.mpr ok, decide_eq_true (by omega)]
        rfl
end
end K61

set_option Elab.async false
set_option linter.all false
set_option maxRecDepth 100000
set_option maxHeartbeats 4000000
namespace K61
open PySem PySem.Spec PyProof.Rows L2 Mz
def spCheckTree (K : PySem.W.Frag) (A : Ads) (Pt : Addr) : Sp := fun vs H Q _ => ∃ (m t : Addr) (M : TM) (ts : List Int), vs = [.ref m, .ref t] ∧ TMA H m M ∧ SqL K H t (ts.map V.int) ∧ GxR.TabG H Pt ∧ treeB M.rs ts = true ∧ ∀ H', Kp Pt H H' → Q .non H'
def spTree (K : PySem.W.Frag) (A : Ads) (Pt : Addr) (f : TM → List Int → Int) : Sp := fun vs H Q _ => ∃ (m t : Addr) (M : TM) (ts : List Int), vs = [.ref m, .ref t] ∧ TMA H m M ∧ GoodT M ∧ SqL K H t (ts.map V.int) ∧ GxR.TabG H Pt ∧ treeB M.rs ts = true ∧ ∀ H', Kp Pt H H' → Q (.int (f M ts)) H'
def spStates (K : PySem.W.Frag) : Sp := fun vs H Q _ => ∃ (m t : Addr) (M : TM) (ts : List Int), vs = [.ref m, .ref t] ∧ TMA H m M ∧ GoodT M ∧ SqL K H t (ts.map V.int) ∧ treeB M.rs ts = true ∧ ∀ H' p, Same H H' → H p = none → H' p = some (.lst [.int (M.stateT ts)]) → Q (.ref p) H'
section
variable {P : Program} {w : World} {K : PySem.W.Frag} {mg : Str → Option Value} {base : Heap} {A : Ads} {c Pt : Addr}
theorem ok_checktree (T : Txt K mg A) (TB : GxR.TabB base mg c Pt) (hc : A.d_are_below.code = .ref c) : FnOk P w K mg base (L2N.CX P w) 3 A.a_check_tree A.d_check_tree ["machine", "tree"] (spCheckTree K A Pt) := by
  have G_is_tree : FnOk P w K mg base CX0 2 A.a_is_tree A.d_is_tree ["ranks", "tree"] (spIsTree K Pt) := ok_istree T TB hc
  refine okN T.F_check_tree sc_check_tree (fun vs H Q E h => ?_) (fun cdv Ar outer s H vs Q E hr h => ?_)
  · obtain ⟨_, _, _, _, rfl, _⟩ := h
    rfl
  · obtain ⟨m, t, M, ts, rfl, ⟨r, ru, ou, qs, hM⟩, hS, hT, tb, fin⟩ := h
    have hr_is_tree : Room 2 _ := hr
    refine ⟨_, (pss_one (ps_if (pt_not (pt_val (pe_call G_is_tree hr_is_tree (by rfl) T.g_is_tree T.F_is_tree.kp T.b_is_tree .nil pass0 (pa_cons (pe_ix (r := rIx K) ix_seq (pv 0) pe_int (fun _ _ => rfl)) (pa_cons (pv 1) pa_nil))))) (pss_one (L2N.ps_raise rfl (L2N.takes_of rfl rfl rfl rfl) (L2N.pmk_own PySem.F.excBase_ValueError T.x_NotAllowed T.g_NotAllowed T.k_NotAllowed (raises_own T.sb_NotAllowed T.ty_NotAllowed) (by rfl)))) pss_nil)), ?_⟩
    refine ⟨_, rfl, .inr (.inl ⟨m, _, 0, _, rfl, rfl, SqT.of hM.top, rfl, ?_⟩)⟩
    refine ⟨_, rfl, r, t, M.rs, ts, rfl, rd_t hM.rs, hS, hT, fun H1 k1 => ?_⟩
    refine ⟨_, rfl, ?_⟩
    rw [tb]
    exact iteF (fin H1 k1)
theorem ok_states (T : Txt K mg A) : FnOk P w K mg base CX0 1 A.a_states_of_trees A.d_states_of_trees ["machine", "symbols"] (spStates K) := by
  refine T.F_states_of_trees.ok sc_states_of_trees (fun vs H Q E h => ?_) (fun cdv Ar outer s H vs Q E hr h => ?_)
  · obtain ⟨_, _, _, _, rfl, _⟩ := h
    rfl
  · obtain ⟨m, t, M, ts, rfl, ⟨r, ru, ou, qs, hM⟩, g, hS, tb, fin⟩ := h
    refine ⟨_, (pss_cons (ps_asg (pv 0) (pg_tup rfl (pgs_cons (pg_name (i := 2) sc_states_of_trees.nd rfl (Or.inl rfl)) (pgs_cons (pg_name (i := 3) sc_states_of_trees.nd rfl (Or.inl rfl)) (pgs_cons (pg_name (i := 4) sc_states_of_trees.nd rfl (Or.inl rfl)) (pgs_cons (pg_name (i := 5) sc_states_of_trees.nd rfl (Or.inl rfl)) pgs_nil))))))
      (pss_cons (ps_set (i := 6) sc_states_of_trees.nd rfl (Or.inl rfl) (pe_lst pa_nil))
      (pss_cons (ps_for PassesOwn.never rfl (pi_reversed (by rfl) T.n_reversed (pa_cons (pv 1) pa_nil)) (pg_name (i := 7) sc_states_of_trees.nd rfl (Or.inl rfl))
        (pss_cons (ps_set (i := 8) sc_states_of_trees.nd rfl (Or.inl rfl) pe_int)
          (pss_cons (ps_for PassesOwn.never rfl (pi_range1 (by rfl) T.n_range (pa_cons (pe_ix (r := rIx K) ix_seq (pv 2) (pv 7) (fun _ _ => rfl)) pa_nil)) (pg_name (i := 3) sc_states_of_trees.nd rfl (Or.inl rfl))
            (pss_one (ps_set (i := 8) sc_states_of_trees.nd rfl (Or.inl rfl) (pe_op op_add (pe_op op_mul (pv 8) (pe_callB call_len_seq (by rfl) T.n_len PySem.boot_len (pa_cons (pv 5) pa_nil))) (pe_bm0 PySem.F.plainAttrs_list PySem.F.slot_list_pop PySem.F.type_list_pop mt_pop (pv 6))))))
          (pss_one (ps_expr (pe_bm PySem.F.plainAttrs_list PySem.F.slot_list_append PySem.F.type_list_append mt_append (pv 6) (pa_cons (pe_ix (r := rIx K) ix_seq (pe_ix (r := rIx K) ix_seq (pv 4) (pv 7) (fun _ _ => rfl)) (pv 8) (fun _ _ => rfl)) pa_nil)))))))
      (pss_one (ps_ret (pe_revL (pv 6))))))), ?_⟩
    refine ⟨_, rfl, m, _, rfl, SqT.of hM.top, rfl, _, _, rfl, _, _, rfl, _, _, rfl, _, _, rfl, rfl, ?_⟩
    refine ⟨Nat.zero_le _, fun l hl => ?_⟩
    have s0 := same_upd (o := .lst []) (Same.refl H) hl
    have lt : (ts.map V.int).length = ts.length := List.length_map ..
    refine ⟨_, rfl, t, _, rfl, s0.seq hS, for_rev (K := K) (a := t) (xs := ts.map V.int) (fun j σ H' => ∃ (v7 v8 v9 : Option V), σ = [some (.ref m), some (.ref t), some (.ref r), v9, some (.ref ru), some (.ref ou), some (.ref l), v7, v8] ∧ Same H H' ∧ H' l = some (.lst ((stackS M (ts.drop (ts.length - j))).reverse.map V.int)))
      ⟨none, none, _, rfl, s0, ?_⟩ (fun i σ H' _ ⟨_, _, _, _, s, _⟩ => s.seq hS) ?_ ?_⟩
    · rw [Nat.sub_zero, List.drop_length]
      exact upd_same
    · rintro j y σ H' hj hy ⟨v7, v8, v9, rfl, s1, e1⟩
      rw [lt] at hj hy
      obtain ⟨s, hs, rfl⟩ := ofV hy
      obtain ⟨⟨_, ok⟩, nx⟩ := stack_at g tb j (by omega)
      obtain ⟨q, r0, le⟩ := nx s hj hs
      have sn := stack_next (M := M) hj hs
      generalize hst : stackS M (ts.drop (ts.length - j)) = st at *
      have n6 := g.n6
      have r3 : M.rank s < 3 := ((ranks_iff.mp g.rk).2.2.1 _ (List.mem_of_getElem? (getD_at q.1 q.2))).2
      refine ⟨_, rfl, _, rfl, .inr (.inl ⟨r, _, s, _, rfl, rfl, rd_t (rd_same s1 hM.rs), atI_get? q.1 (getD_at q.1 q.2), ?_⟩)⟩
      refine ⟨(M.rank s).toNat, (by rw [Int.toNat_of_nonneg r0]; rfl), by omega, by omega, for_range (fun k σ H2 => ∃ v9 : Option V, σ = [some (.ref m), some (.ref t), some (.ref r), v9, some (.ref ru), some (.ref ou), some (.ref l), some (.int s), some (.int (plc M.n (st.take k)))] ∧ Same H H2 ∧ H2 l = some (.lst ((st.drop k).reverse.map V.int)))
        ⟨v9, rfl, s1, e1⟩ ?_ ?_⟩
      · rintro k σ H2 hk ⟨v9, rfl, s2, e2⟩
        obtain ⟨a, _, da, ta⟩ := drop_cons (st := st) (k := k) (by omega)
        rw [da, rev_cons] at e2
        refine ⟨_, rfl, _, rfl, ou, _, rfl, .inr (SqT.of (s2 _ _ hM.ou)), ?_⟩
        rw [show (M.outs.map V.int).length = M.outs.length from List.length_map ..]
        refine ⟨_, _, rfl, rfl, .inr ⟨by omega, by omega⟩, ?_⟩
        refine ⟨_, rfl, .inl ⟨rfl, _, SqL.of e2⟩, l, _, _, rfl, rfl, e2, last_snoc, ?_⟩
        rw [List.dropLast_concat]
        refine ⟨_, _, rfl, rfl, some (.int ((0 : Int) + (k : Int))), ?_, same_set s2 hl, upd_same⟩
        rw [ta, plc_snoc]
        rfl
      · rintro σ H2 ⟨v9, rfl, s2, e2⟩
        rw [Int.toNat_natCast] at e2 ⊢
        have kk : ∀ k ∈ st.take (M.rank s).toNat, 0 ≤ k ∧ k < M.n := fun k hk => ok k (List.mem_of_mem_take hk)
        obtain ⟨er, p0, ee, _, _⟩ := entry_at g q.1 q.2 kk (by rw [List.length_take, Nat.min_eq_left le])
        have ll := hM.len
        have rl := g.rl
        have eq_ : qs[s.toNat]? = some qs[s.toNat] := List.getElem?_eq_getElem (by omega)
        have hrow := hM.row _ _ _ eq_ er
        refine ⟨_, rfl, .inl ⟨rfl, _, SqL.of e2⟩, ?_⟩
        refine ⟨_, rfl, _, rfl, .inr (.inl ⟨ru, _, s, _, rfl, rfl, SqT.of (s2 _ _ hM.ru), atI_get? q.1 eq_, ?_⟩)⟩
        refine ⟨_, rfl, .inr (.inl ⟨_, _, _, _, rfl, rfl, SqT.of (s2 _ _ hrow), atI_get? p0 ee, ?_⟩)⟩
        refine ⟨l, _, _, rfl, rfl, e2, ?_, _, _, _, rfl, same_set s2 hl, ?_⟩
        · rw [List.length_map, List.length_reverse, List.length_drop]
          have : ts.length ≤ 400 := by
            unfold treeB at tb
            rw [Bool.and_eq_true, Bool.and_eq_true] at tb
            exact of_decide_eq_true tb.1.1
          have l2 := stack_len M (ts.drop (ts.length - j))
          rw [hst, List.length_drop] at l2
          exact Nat.lt_of_le_of_lt (by omega : st.length - (M.rank s).toNat ≤ 400) (by decide)
        · rw [upd_same, sn]
          unfold stepS
          rw [rev_cons]
    · rintro σ H' ⟨v7, v8, v9, rfl, s1, e1⟩
      rw [lt, Nat.sub_self, List.drop_zero, (stack_one g tb).1] at e1
      exact ⟨_, rfl, l, _, rfl, SqL.of e1, fun p hp => fin _ p (same_upd s1 hp) (s1.free hp) upd_same⟩
end
end K61

set_option Elab.async false
set_option linter.all false
set_option maxRecDepth 100000
set_option maxHeartbeats 4000000
namespace K61
open PySem PySem.Spec PyProof.Rows L2 Mz
def spCheckM (K : PySem.W.Frag) (A : Ads) (Pt : Addr) : Sp := fun vs H Q E => ∃ (m : Addr) (M : TM), vs = [.ref m] ∧ TMA H m M ∧ M.os.natAbs < 2 ^ 60 ∧ M.outs.length < 2 ^ 60 ∧ GxR.TabG H Pt ∧
  ∀ H', Kp Pt H H' → (GoodT M → Q .non H') ∧ (¬ GoodT M → E (.ref A.a_NotAllowed) none H')
theorem size_at {n r : Int} (h0 : 0 ≤ r) (h3 : r < 3) : [(1 : Int), n, n * n][r.toNat]? = some (n ^ r.toNat) := by
  have : r = 0 ∨ r = 1 ∨ r = 2 := by omega
  rcases this with rfl | rfl | rfl
  · show some 1 = some (n ^ 0)
    rw [Int.pow_zero]
  · show some n = some (n ^ 1)
    rw [Int.pow_succ, Int.pow_zero, Int.one_mul]
  · show some (n * n) = some (n ^ 2)
    rw [Int.pow_succ, Int.pow_succ, Int.pow_zero, Int.one_mul]
section
variable {P : Program} {w : World} {K : PySem.W.Frag} {mg : Str → Option Value} {base : Heap} {A : Ads} {c Pt : Addr}
theorem ok_state (T : Txt K mg A) (TB : GxR.TabB base mg c Pt) (hc : A.d_are_below.code = .ref c) : FnOk P w K mg base (L2N.CX P w) 4 A.a_state_of_tree A.d_state_of_tree ["machine", "tree"] (spTree K A Pt fun M ts => M.stateT ts) := by
  have G_check_tree : FnOk P w K mg base (L2N.CX P w) 3 A.a_check_tree A.d_check_tree ["machine", "tree"] (spCheckTree K A Pt) := ok_checktree T TB hc
  have G_states_of_trees : FnOk P w K mg base CX0 1 A.a_states_of_trees A.d_states_of_trees ["machine", "symbols"] (spStates K) := ok_states T
  refine okN T.F_state_of_tree sc_state_of_tree (fun vs H Q E h => ?_) (fun cdv Ar outer s H vs Q E hr h => ?_)
  · obtain ⟨_, _, _, _, rfl, _⟩ := h
    rfl
  · obtain ⟨m, t, M, ts, rfl, hM, g, hS, hT, tb, fin⟩ := h
    have hr_check_tree : Room 3 _ := hr
    have hr_states_of_trees : Room 1 _ := hr.mono (by decide)
    refine ⟨_, (pss_cons (ps_expr (pe_call G_check_tree hr_check_tree (by rfl) T.g_check_tree T.F_check_tree.kp T.b_check_tree .nil (L2N.passes_call (L2N.takes_of rfl rfl rfl rfl) (fun _ _ _ _ h => h)) (pa_cons (pv 0) (pa_cons (pv 1) pa_nil))))
      (pss_one (ps_ret (pe_ix (r := rIx K) ix_seq (pe_call G_states_of_trees hr_states_of_trees (by rfl) T.g_states_of_trees T.F_states_of_trees.kp T.b_states_of_trees .nil pass0 (pa_cons (pv 0) (pa_cons (pv 1) pa_nil))) pe_int (fun _ _ => rfl))))), ?_⟩
    refine ⟨_, rfl, _, rfl, m, t, M, ts, rfl, hM, hS, hT, tb, fun H1 k1 => ?_⟩
    refine ⟨_, rfl, _, rfl, m, t, M, ts, rfl, k1.tma hT hM, g, k1.seq hT hS, tb, fun H2 p s2 hp0 hp => ?_⟩
    exact .inl ⟨p, _, 0, _, rfl, rfl, SqL.of hp, rfl, fin H2 (k1.andS s2)⟩
theorem ok_output (T : Txt K mg A) (TB : GxR.TabB base mg c Pt) (hc : A.d_are_below.code = .ref c) : FnOk P w K mg base (L2N.CX P w) 5 A.a_output_of_tree A.d_output_of_tree ["machine", "tree"] (spTree K A Pt fun M ts => M.outs.getD (M.stateT ts).toNat 0) := by
  have G_state_of_tree : FnOk P w K mg base (L2N.CX P w) 4 A.a_state_of_tree A.d_state_of_tree ["machine", "tree"] (spTree K A Pt fun M ts => M.stateT ts) := ok_state T TB hc
  refine okN T.F_output_of_tree sc_output_of_tree (fun vs H Q E h => ?_) (fun cdv Ar outer s H vs Q E hr h => ?_)
  · obtain ⟨_, _, _, _, rfl, _⟩ := h
    rfl
  · obtain ⟨m, t, M, ts, rfl, hMA, g, hS, hT, tb, fin⟩ := h
    have hr_state_of_tree : Room 4 _ := hr
    refine ⟨_, (pss_one (ps_ret (pe_ix (r := rIx K) ix_seq (pe_ix (r := rIx K) ix_seq (pv 0) pe_int (fun _ _ => rfl)) (pe_call G_state_of_tree hr_state_of_tree (by rfl) T.g_state_of_tree T.F_state_of_tree.kp T.b_state_of_tree .nil (L2N.passes_call (L2N.takes_of rfl rfl rfl rfl) (fun _ _ _ _ h => h)) (pa_cons (pv 0) (pa_cons (pv 1) pa_nil))) (fun _ _ => rfl)))), ?_⟩
    obtain ⟨r, ru, ou, qs, hM⟩ := id hMA
    refine ⟨_, rfl, .inr (.inl ⟨m, _, 3, _, rfl, rfl, SqT.of hM.top, rfl, ?_⟩)⟩
    refine ⟨_, rfl, _, rfl, m, t, M, ts, rfl, hMA, g, hS, hT, tb, fun H1 k1 => ?_⟩
    obtain ⟨_, s0, s1⟩ := stack_one g tb
    exact .inr (.inl ⟨ou, _, _, _, rfl, rfl, SqT.of (k1.tup hT hM.ou), atI_get? s0 (getD_at s0 s1), fin H1 k1⟩)
theorem ok_checkm (T : Txt K mg A) (TB : GxR.TabB base mg c Pt) (hc : A.d_are_below.code = .ref c) : FnOk P w K mg base (L2N.CX P w) 3 A.a_check_tree_machine A.d_check_tree_machine ["machine"] (spCheckM K A Pt) := by
  have G_are_below : FnOk P w K mg base CX0 1 A.a_are_below A.d_are_below ["numbers", "limit"] (spBelow K Pt) := ok_below T TB hc
  have G_are_ranks : FnOk P w K mg base CX0 2 A.a_are_ranks A.d_are_ranks ["ranks"] (spRanks K Pt) := ok_ranks T TB hc
  refine okN T.F_check_tree_machine sc_check_tree_machine (fun vs H Q E h => ?_) (fun cdv Ar outer s H vs Q E hr h => ?_)
  · obtain ⟨_, _, rfl, _⟩ := h
    rfl
  · obtain ⟨m, M, rfl, ⟨r, ru, ou, qs, hM⟩, to, tn, hT, fin⟩ := h
    have hr_are_below : Room 1 _ := hr.mono (by decide)
    have hr_are_ranks : Room 2 _ := hr
    refine ⟨_, (pss_cons (ps_asg (pv 0) (pg_tup rfl (pgs_cons (pg_name (i := 1) sc_check_tree_machine.nd rfl (Or.inl rfl)) (pgs_cons (pg_name (i := 2) sc_check_tree_machine.nd rfl (Or.inl rfl)) (pgs_cons (pg_name (i := 3) sc_check_tree_machine.nd rfl (Or.inl rfl)) (pgs_cons (pg_name (i := 4) sc_check_tree_machine.nd rfl (Or.inl rfl)) pgs_nil))))))
      (pss_cons (ps_if (pt_not (pt_val (pe_call G_are_ranks hr_are_ranks (by rfl) T.g_are_ranks T.F_are_ranks.kp T.b_are_ranks .nil pass0 (pa_cons (pv 1) pa_nil)))) (pss_one (L2N.ps_raise rfl (L2N.takes_of rfl rfl rfl rfl) (L2N.pmk_own PySem.F.excBase_ValueError T.x_NotAllowed T.g_NotAllowed T.k_NotAllowed (raises_own T.sb_NotAllowed T.ty_NotAllowed) (by rfl)))) pss_nil)
      (pss_cons (ps_if (pt_not (pt_chain op_le op_le pe_int (pv 2) (C8.pe_gc (v := .int 4) (by rfl) T.c_MAX_TREE_OUTS))) (pss_one (L2N.ps_raise rfl (L2N.takes_of rfl rfl rfl rfl) (pmk_any PySem.F.excBase_ValueError T.x_NotAllowed T.g_NotAllowed T.k_NotAllowed (raises_own T.sb_NotAllowed T.ty_NotAllowed) (by rfl) (pa_cons (pe_joined (.cons pe_str (.cons (pe_fmt (C8.pe_gc (v := .int 4) (by rfl) T.c_MAX_TREE_OUTS)) (.cons pe_str (.cons (pe_fmt (pv 2)) .nil))))) pa_nil)))) pss_nil)
      (pss_cons (ps_set (i := 5) sc_check_tree_machine.nd rfl (Or.inl rfl) (pe_callB call_len_seq (by rfl) T.n_len PySem.boot_len (pa_cons (pv 4) pa_nil)))
      (pss_cons (ps_if (pt_not (pt_chain op_le op_le pe_int (pv 5) (C8.pe_gc (v := .int 6) (by rfl) T.c_MAX_TREE_STATES))) (pss_one (L2N.ps_raise rfl (L2N.takes_of rfl rfl rfl rfl) (pmk_any PySem.F.excBase_ValueError T.x_NotAllowed T.g_NotAllowed T.k_NotAllowed (raises_own T.sb_NotAllowed T.ty_NotAllowed) (by rfl) (pa_cons (pe_joined (.cons pe_str (.cons (pe_fmt (C8.pe_gc (v := .int 6) (by rfl) T.c_MAX_TREE_STATES)) (.cons pe_str (.cons (pe_fmt (pv 5)) .nil))))) pa_nil)))) pss_nil)
      (pss_cons (ps_if (pt_not (pt_val (pe_call G_are_below hr_are_below (by rfl) T.g_are_below T.F_are_below.kp T.b_are_below .nil pass0 (pa_cons (pv 4) (pa_cons (pv 2) pa_nil))))) (pss_one (L2N.ps_raise rfl (L2N.takes_of rfl rfl rfl rfl) (pmk_any PySem.F.excBase_ValueError T.x_NotAllowed T.g_NotAllowed T.k_NotAllowed (raises_own T.sb_NotAllowed T.ty_NotAllowed) (by rfl) (pa_cons (pe_joined (.cons pe_str (.cons (pe_fmt (pe_op op_sub (pv 2) pe_int)) .nil))) pa_nil)))) pss_nil)
      (pss_cons (ps_if (pt_cmpR op_ne (pe_callB call_len_seq (by rfl) T.n_len PySem.boot_len (pa_cons (pv 3) pa_nil)) (pe_callB call_len_seq (by rfl) T.n_len PySem.boot_len (pa_cons (pv 1) pa_nil)) (nomark _)) (pss_one (L2N.ps_raise rfl (L2N.takes_of rfl rfl rfl rfl) (L2N.pmk_own PySem.F.excBase_ValueError T.x_NotAllowed T.g_NotAllowed T.k_NotAllowed (raises_own T.sb_NotAllowed T.ty_NotAllowed) (by rfl)))) pss_nil)
      (pss_one (ps_for (passes_of rfl) rfl (RZ.pi_zipA (by rfl) T.n_zip (pa_cons (pv 1) (pa_cons (pv 3) pa_nil))) (pg_tup rfl (pgs_cons (pg_name (i := 6) sc_check_tree_machine.nd rfl (Or.inl rfl)) (pgs_cons (pg_name (i := 7) sc_check_tree_machine.nd rfl (Or.inl rfl)) pgs_nil)))
        (pss_one (ps_if (PW.pt (pw_or (pt_cmpR op_ne (pe_callB call_len_seq (by rfl) T.n_len PySem.boot_len (pa_cons (pv 7) pa_nil)) (pe_ix (r := rIx K) ix_seq (pe_tup (pa_cons pe_int (pa_cons (pv 5) (pa_cons (pe_op op_mul (pv 5) (pv 5)) pa_nil)))) (pv 6) (fun _ _ => rfl)) (nomark _)) (pw_or1 (pt_not (pt_val (pe_call G_are_below hr_are_below (by rfl) T.g_are_below T.F_are_below.kp T.b_are_below .nil pass0 (pa_cons (pv 7) (pa_cons (pv 5) pa_nil)))))))) (pss_one (L2N.ps_raise rfl (L2N.takes_of rfl rfl rfl rfl) (L2N.pmk_own PySem.F.excBase_ValueError T.x_NotAllowed T.g_NotAllowed T.k_NotAllowed (raises_own T.sb_NotAllowed T.ty_NotAllowed) (by rfl)))) pss_nil))))))))))), ?_⟩
    refine ⟨_, rfl, m, _, rfl, SqT.of hM.top, rfl, _, _, rfl, _, _, rfl, _, _, rfl, _, _, rfl, rfl, ?_⟩
    refine ⟨_, rfl, r, M.rs, rfl, rd_t hM.rs, hT, fun H1 k1 => ⟨_, rfl, ?_⟩⟩
    have f1 := fin H1 k1
    cases hb : ranksB M.rs with
    | false => exact iteT (f1.2 fun g => by rw [g.rk] at hb; cases hb)
    | true =>
      refine iteF ?_
      have rk := ranks_iff.mp hb
      have hM1 := k1.tmt hT hM
      have lou : (M.outs.map V.int).length = M.outs.length := List.length_map ..
      -- outs
      refine ⟨_, rfl, ?_⟩
      refine ⟨_, _, rfl, rfl, _, rfl, ?_⟩
      refine ite2 (fun c3 => ?_) (fun c3 => ⟨_, rfl, iteT0 ?_⟩)
      rotate_left
      · exact js_4 (fun q => q) (fun q => ⟨_, rfl, q⟩) (by decide) (by omega) (by decide) (by decide) fun out => ⟨by show 1 ≤ sizeLine; decide, f1.2 fun g => c3 (decide_eq_true g.o1)⟩
      refine ⟨_, _, rfl, rfl, _, rfl, iteN2 (fun c4 => ?_) (fun c4 => ?_)⟩
      · exact js_4 (fun q => q) (fun q => ⟨_, rfl, q⟩) (by decide) (by omega) (by decide) (by decide) fun out => ⟨by show 1 ≤ sizeLine; decide, f1.2 fun g => c4 g.o4⟩
      -- count
      refine ⟨_, rfl, ou, _, rfl, .inr (SqT.of hM1.ou), ?_⟩
      rw [lou]
      refine ⟨_, rfl, ?_⟩
      refine ⟨_, _, rfl, rfl, _, rfl, ?_⟩
      refine ite2 (fun c5 => ?_) (fun c5 => ⟨_, rfl, iteT0 ?_⟩)
      rotate_left
      · exact js_4 (i2 := (M.outs.length : Int)) (fun q => q) (fun q => ⟨_, rfl, q⟩) (by decide) (by omega) (by decide) (by decide) fun out => ⟨by show 1 ≤ sizeLine; decide, f1.2 fun g => c5 (decide_eq_true (by have := g.n1; omega))⟩
      refine ⟨_, _, rfl, rfl, _, rfl, iteN2 (fun c6 => ?_) (fun c6 => ?_)⟩
      · exact js_4 (i2 := (M.outs.length : Int)) (fun q => q) (fun q => ⟨_, rfl, q⟩) (by decide) (by omega) (by decide) (by decide) fun out => ⟨by show 1 ≤ sizeLine; decide, f1.2 fun g => c6 (by have := g.n6; omega)⟩
      -- outputs
      refine ⟨_, rfl, _, rfl, ou, M.outs, M.os, rfl, .inr (SqT.of hM1.ou), k1.tab, fun H2 k2 => ⟨_, rfl, ?_⟩⟩
      have k12 := k1.trans k2
      have f2 := fin H2 k12
      have hM2 := k12.tmt hT hM
      refine iteB (fun c7 => ?_) (fun c7 => ?_)
      · refine js_2 (i1 := M.os - 1) (fun q => ⟨_, rfl, _, _, rfl, rfl, q⟩) (by omega) (by decide) fun out => ⟨by show 1 ≤ sizeLine; decide, f2.2 fun g => ?_⟩
        rw [below_iff.mpr g.ob] at c7
        cases c7
      -- as many rules
      refine ⟨_, rfl, ru, _, rfl, .inr (SqT.of hM2.ru), _, rfl, r, _, rfl, .inr (rd_t hM2.rs), ?_⟩
      rw [show (qs.map V.ref).length = M.rules.length by rw [List.length_map, hM.len], show (M.rs.map V.int).length = M.rs.length from List.length_map ..]
      refine ⟨rfl, _, rfl, ?_⟩
      refine ite2 (fun c8 => ?_) (fun c8 => ?_)
      · exact f2.2 fun g => by
          have := g.rl
          simp at c8
          omega
      have c8 : M.rules.length = M.rs.length := by
        simp at c8
        omega
      have n1 : 1 ≤ M.outs.length := by
        have := of_decide_eq_true c5
        omega
      have n6 : M.outs.length ≤ 6 := by
        have : (M.outs.length : Int) ≤ 6 := c6
        omega
      have o1 : 1 ≤ M.os := of_decide_eq_true c3
      have o4 : M.os ≤ 4 := c4
      refine ⟨_, rfl, _, rfl, r, ru, _, _, rfl, .inr ⟨rd_t hM2.rs, SqT.of hM2.ru, RZ.for_zipT (K := K) (a := r) (b := ru) (xs := M.rs.map V.int) (ys := qs.map V.ref) (by rw [List.length_map, List.length_map, hM.len, c8])
        (fun i σ H' => ∃ v6 v7 : Option V, σ = [some (.ref m), some (.ref r), some (.int M.os), some (.ref ru), some (.ref ou), some (.int (M.outs.length : Int)), v6, v7] ∧ Kp Pt H H' ∧ ∀ (j : Nat) (x : Int) (w : List Int), j < i → M.rs[j]? = some x → M.rules[j]? = some w → w.length = M.outs.length ^ x.toNat ∧ Lt (M.outs.length : Int) w)
        ⟨none, none, rfl, k12, fun j x w hj => absurd hj (by omega)⟩ (fun i σ H' ⟨_, _, _, k, _⟩ => ⟨rd_t (k.rd hT hM.rs), SqT.of (k.tup hT hM.ru)⟩) ?_ ?_⟩⟩
      · rintro i x y Tt σ H' hx hy ⟨v6, v7, rfl, k, ok⟩ hTt
        obtain ⟨rank, hrank, rfl⟩ := ofV hx
        obtain ⟨q, hq, rfl⟩ := ofV hy
        obtain ⟨x0, x3⟩ := rk.2.2.1 rank (List.mem_of_getElem? hrank)
        have il := (List.getElem?_eq_some_iff.mp hq).1
        rw [hM.len] at il
        have hw : M.rules[i]? = some M.rules[i] := List.getElem?_eq_getElem il
        have kT := k.andS (same_upd (o := .tup [.int rank, .ref q]) (Same.refl H') hTt)
        refine ⟨Tt, _, rfl, SqT.of upd_same, rfl, _, _, rfl, _, _, rfl, rfl, ?_⟩
        generalize upd H' Tt (.tup [.int rank, .ref q]) = H3 at *
        have hq3 := kT.tup hT (hM.row i q _ hq hw)
        refine ⟨_, rfl, q, _, rfl, .inr (SqT.of hq3), ?_⟩
        rw [show (M.rules[i].map V.int).length = M.rules[i].length from List.length_map ..]
        refine ⟨_, rfl, _, rfl, _, rfl, _, _, rfl, rfl, .inl ⟨by omega, by omega⟩, (by show 3 ≤ sizeLine; decide), fun d hd => ?_⟩
        have kd := kT.andS (same_upd (o := .tup [.int 1, .int (M.outs.length : Int), .int ((M.outs.length : Int) * (M.outs.length : Int))]) (Same.refl H3) hd)
        have ed : (upd H3 d (.tup [.int 1, .int (M.outs.length : Int), .int ((M.outs.length : Int) * (M.outs.length : Int))])) d = some (.tup (([1, (M.outs.length : Int), (M.outs.length : Int) * (M.outs.length : Int)] : List Int).map V.int)) := upd_same
        generalize upd H3 d (.tup [.int 1, .int (M.outs.length : Int), .int ((M.outs.length : Int) * (M.outs.length : Int))]) = H4 at *
        refine ⟨_, rfl, .inr (.inl ⟨d, _, rank, _, rfl, rfl, SqT.of ed, atI_get? x0 (size_at x0 x3), ?_⟩)⟩
        have f4 := fin H4 kd
        have en : ((M.outs.length : Int)) ^ rank.toNat = ((M.outs.length ^ rank.toNat : Nat) : Int) := by rw [Int.natCast_pow]
        refine ⟨rfl, _, rfl, ?_⟩
        rw [en]
        refine ite2 (fun c9 => ?_) (fun c9 => ?_)
        · exact f4.2 fun g => by
            have := g.sz i rank _ hrank hw
            rw [this] at c9
            simp at c9
        have c9 : M.rules[i].length = M.outs.length ^ rank.toNat := by
          simp at c9
          omega
        refine ⟨_, rfl, _, rfl, q, M.rules[i], _, rfl, .inr (SqT.of (kd.tup hT (hM.row i q _ hq hw))), kd.tab, fun H5 k5 => ⟨_, rfl, ?_⟩⟩
        have k45 := kd.trans k5
        refine iteB (fun ca => ?_) (fun ca => ?_)
        · exact (fin H5 k45).2 fun g => by
            rw [below_iff.mpr (g.rb _ (List.getElem_mem il))] at ca
            cases ca
        · refine ⟨_, _, rfl, k45, fun j x w hj hx' hw' => ?_⟩
          rcases Nat.lt_or_ge j i with z | z
          · exact ok j x w z hx' hw'
          · have : j = i := by omega
            subst this
            rw [hrank] at hx'
            rw [hw] at hw'
            cases hx'
            cases hw'
            exact ⟨c9, below_iff.mp ca⟩
      · rintro σ H' ⟨v6, v7, rfl, k, ok⟩
        rw [List.length_map] at ok
        refine (fin H' k).1 ⟨hb, o1, o4, n1, n6, below_iff.mp c7, c8, fun i x w hx hw => ?_, fun w hw => ?_⟩
        · exact (ok i x w (List.getElem?_eq_some_iff.mp hx).1 hx hw).1
        · obtain ⟨i, hi⟩ := List.mem_iff_getElem?.mp hw
          have il := (List.getElem?_eq_some_iff.mp hi).1
          have il2 : i < M.rs.length := by omega
          exact (ok i _ w il2 (List.getElem?_eq_getElem il2) hi).2
end
end K61

set_option Elab.async false
set_option linter.all false
set_option maxRecDepth 100000
set_option maxHeartbeats 4000000
namespace K61
open PySem PySem.Spec PyProof.Rows L2 Mz
def spTreeMachine (K : PySem.W.Frag) : Sp := fun vs H Q _ => ∃ (p r : Addr) (ms rs : List Int) (o x : Int) (n : Nat), vs = [.ref p, .ref r, .int o, .int x] ∧ x = (n : Int) ∧ SqL K H p (ms.map V.int) ∧ Pos ms ∧ Rd H r (.tup (rs.map V.int)) ∧ ranksB rs = true ∧ 1 ≤ o ∧ o ≤ 4 ∧ 1 ≤ n ∧ n ≤ 6 ∧
  ∀ (M : TM) (H' : Hp) (m : Addr), GoodT M → M.rs = rs → M.os = o → M.outs.length = n → Same H H' → TMA H' m M → Q (.ref m) H'
def spRule (K : PySem.W.Frag) : Sp := fun vs H Q _ => ∃ (m kd : Addr) (M : TM) (s : Int) (ks : List Int), vs = [.ref m, .int s, .ref kd] ∧ TMA H m M ∧ GoodT M ∧ 0 ≤ s ∧ s < (M.rs.length : Int) ∧ SqL K H kd (ks.map V.int) ∧ (∀ k ∈ ks, 0 ≤ k ∧ k < M.n) ∧ ks.length = (M.rank s).toNat ∧ Q (.int (M.to s ks)) H
def spState (K : PySem.W.Frag) : Sp := fun vs H Q _ => ∃ (m t : Addr) (M : TM) (ts : List Int), vs = [.ref m, .ref t] ∧ TMA H m M ∧ GoodT M ∧ SqL K H t (ts.map V.int) ∧ treeB M.rs ts = true ∧ ∀ H', Same H H' → Q (.int (M.stateT ts)) H'
section
variable {P : Program} {w : World} {K : PySem.W.Frag} {mg : Str → Option Value} {base : Heap} {A : Ads} {c Pt : Addr}
theorem ok_rule (T : Txt K mg A) : FnOk P w K mg base CX0 1 A.a_law_rule A.d_law_rule ["machine", "symbol", "kids"] (spRule K) := by
  refine T.F_law_rule.ok sc_law_rule (fun vs H Q E h => ?_) (fun cdv Ar outer s H vs Q E hr h => ?_)
  · obtain ⟨_, _, _, _, _, rfl, _⟩ := h
    rfl
  · obtain ⟨m, kd, M, s, ks, rfl, ⟨r, ru, ou, qs, hM⟩, g, s0, s1, hS, hk, hl, fin⟩ := h
    refine ⟨_, (pss_cons (ps_set (i := 3) sc_law_rule.nd rfl (Or.inl rfl) pe_int)
      (pss_cons (ps_for PassesOwn.never rfl (pi_list (pv 2)) (pg_name (i := 4) sc_law_rule.nd rfl (Or.inl rfl))
        (pss_one (ps_set (i := 3) sc_law_rule.nd rfl (Or.inl rfl) (pe_op op_add (pe_op op_mul (pv 3) (pe_callB call_len_seq (by rfl) T.n_len PySem.boot_len (pa_cons (pe_ix (r := rIx K) ix_seq (pv 0) pe_int (fun _ _ => rfl)) pa_nil))) (pv 4)))))
      (pss_one (ps_ret (pe_ix (r := rIx K) ix_seq (pe_ix (r := rIx K) ix_seq (pe_ix (r := rIx K) ix_seq (pv 0) pe_int (fun _ _ => rfl)) (pv 1) (fun _ _ => rfl)) (pv 3) (fun _ _ => rfl)))))), ?_⟩
    have n6 := g.n6
    have lk : (ks.map V.int).length = ks.length := List.length_map ..
    refine ⟨_, rfl, kd, rfl, ⟨_, hS⟩, for_list (K := K) (a := kd) (xs := ks.map V.int) (fun i σ H' => ∃ v4 : Option V, σ = [some (.ref m), some (.int s), some (.ref kd), some (.int (plc M.n (ks.take i))), v4] ∧ H' = H)
      ⟨none, rfl, rfl⟩ (fun i σ H' _ ⟨_, _, e⟩ => by rw [e]; exact hS) ?_ ?_⟩
    · rintro i y σ H' hi ⟨v4, rfl, rfl⟩
      obtain ⟨z, hz, rfl⟩ := ofV hi
      refine ⟨_, rfl, _, rfl, .inr (.inl ⟨m, _, 3, _, rfl, rfl, SqT.of hM.top, rfl, ?_⟩)⟩
      refine ⟨ou, _, rfl, .inr (SqT.of hM.ou), ?_⟩
      rw [show (M.outs.map V.int).length = M.outs.length from List.length_map ..]
      refine ⟨_, _, rfl, rfl, .inr ⟨by omega, by omega⟩, _, rfl, _, _, rfl, rfl, ?_⟩
      refine ⟨some (.int z), ?_, rfl⟩
      rw [take_more hz, plc_snoc]
      rfl
    · rintro σ H' ⟨v4, rfl, rfl⟩
      rw [lk, List.take_length]
      obtain ⟨er, p0, ee, _, _⟩ := entry_at g s0 s1 hk hl
      have ll := hM.len
      have rl := g.rl
      have eq_ : qs[s.toNat]? = some qs[s.toNat] := List.getElem?_eq_getElem (by omega)
      have hrow := hM.row _ _ _ eq_ er
      refine ⟨_, rfl, .inr (.inl ⟨m, _, 2, _, rfl, rfl, SqT.of hM.top, rfl, ?_⟩)⟩
      refine ⟨_, rfl, .inr (.inl ⟨ru, _, s, _, rfl, rfl, SqT.of hM.ru, atI_get? s0 eq_, ?_⟩)⟩
      exact ⟨_, rfl, .inr (.inl ⟨_, _, _, _, rfl, rfl, SqT.of hrow, atI_get? p0 ee, fin⟩)⟩
theorem ok_lawstate (T : Txt K mg A) : FnOk P w K mg base CX0 2 A.a_law_state A.d_law_state ["machine", "tree"] (spState K) := by
  have G_law_rule : FnOk P w K mg base CX0 1 A.a_law_rule A.d_law_rule ["machine", "symbol", "kids"] (spRule K) := ok_rule T
  refine T.F_law_state.ok sc_law_state (fun vs H Q E h => ?_) (fun cdv Ar outer s H vs Q E hr h => ?_)
  · obtain ⟨_, _, _, _, rfl, _⟩ := h
    rfl
  · obtain ⟨m, t, M, ts, rfl, hMA, g, hS, tb, fin⟩ := h
    have hr_law_rule : Room 1 _ := hr
    refine ⟨_, (pss_cons (ps_set (i := 2) sc_law_state.nd rfl (Or.inl rfl) (pe_lst pa_nil))
      (pss_cons (ps_for PassesOwn.never rfl (pi_reversed (by rfl) T.n_reversed (pa_cons (pv 1) pa_nil)) (pg_name (i := 3) sc_law_state.nd rfl (Or.inl rfl))
        (pss_cons (ps_set (i := 4) sc_law_state.nd rfl (Or.inl rfl) (pe_lst pa_nil))
          (pss_cons (ps_for PassesOwn.never rfl (pi_range1 (by rfl) T.n_range (pa_cons (pe_ix (r := rIx K) ix_seq (pe_ix (r := rIx K) ix_seq (pv 0) pe_int (fun _ _ => rfl)) (pv 3) (fun _ _ => rfl)) pa_nil)) (pg_name (i := 5) sc_law_state.nd rfl (Or.inl rfl))
            (pss_one (ps_expr (pe_bm PySem.F.plainAttrs_list PySem.F.slot_list_append PySem.F.type_list_append mt_append (pv 4) (pa_cons (pe_bm0 PySem.F.plainAttrs_list PySem.F.slot_list_pop PySem.F.type_list_pop mt_pop (pv 2)) pa_nil)))))
          (pss_one (ps_expr (pe_bm PySem.F.plainAttrs_list PySem.F.slot_list_append PySem.F.type_list_append mt_append (pv 2) (pa_cons (pe_call G_law_rule hr_law_rule (by rfl) T.g_law_rule T.F_law_rule.kp T.b_law_rule .nil pass0 (pa_cons (pv 0) (pa_cons (pv 3) (pa_cons (pv 4) pa_nil)))) pa_nil)))))))
      (pss_one (ps_ret (pe_ix (r := rIx K) ix_seq (pv 2) pe_int (fun _ _ => rfl)))))), ?_⟩
    obtain ⟨r, ru, ou, qs, hM⟩ := id hMA
    refine ⟨Nat.zero_le _, fun l hl => ?_⟩
    have s0 := same_upd (o := .lst []) (Same.refl H) hl
    have lt : (ts.map V.int).length = ts.length := List.length_map ..
    refine ⟨_, rfl, t, _, rfl, s0.seq hS, for_rev (K := K) (a := t) (xs := ts.map V.int) (fun j σ H' => ∃ (v3 v4 v5 : Option V), σ = [some (.ref m), some (.ref t), some (.ref l), v3, v4, v5] ∧ Same H H' ∧ H' l = some (.lst ((stackS M (ts.drop (ts.length - j))).reverse.map V.int)))
      ⟨none, none, none, rfl, s0, ?_⟩ (fun i σ H' _ ⟨_, _, _, _, s, _⟩ => s.seq hS) ?_ ?_⟩
    · rw [Nat.sub_zero, List.drop_length]
      exact upd_same
    · rintro j y σ H' hj hy ⟨v3, v4, v5, rfl, s1, e1⟩
      rw [lt] at hj hy
      obtain ⟨s, hs, rfl⟩ := ofV hy
      obtain ⟨⟨_, ok⟩, nx⟩ := stack_at g tb j (by omega)
      obtain ⟨q, r0, le⟩ := nx s hj hs
      have sn := stack_next (M := M) hj hs
      have l2 := stack_len M (ts.drop (ts.length - j))
      generalize hst : stackS M (ts.drop (ts.length - j)) = st at *
      have r3 : M.rank s < 3 := ((ranks_iff.mp g.rk).2.2.1 _ (List.mem_of_getElem? (getD_at q.1 q.2))).2
      refine ⟨Nat.zero_le _, fun kd hkd => ?_⟩
      have kl : kd ≠ l := fun z => by
        rw [z, e1] at hkd
        cases hkd
      have s2 := same_upd (o := .lst []) s1 hkd
      have e2 := same_upd (o := .lst []) (Same.refl H') hkd _ _ e1
      have ek : (upd H' kd (.lst [])) kd = some (.lst []) := upd_same
      have hkd0 : H kd = none := s1.free hkd
      generalize upd H' kd (.lst []) = H2 at *
      refine ⟨_, rfl, .inr (.inl ⟨m, _, 0, _, rfl, rfl, SqT.of (s2 _ _ hM.top), rfl, ?_⟩)⟩
      refine ⟨_, rfl, .inr (.inl ⟨r, _, s, _, rfl, rfl, rd_t (rd_same s2 hM.rs), atI_get? q.1 (getD_at q.1 q.2), ?_⟩)⟩
      refine ⟨(M.rank s).toNat, (by rw [Int.toNat_of_nonneg r0]; rfl), by omega, by omega, for_range (fun k σ H2 => ∃ v5 : Option V, σ = [some (.ref m), some (.ref t), some (.ref l), some (.int s), some (.ref kd), v5] ∧ Same H H2 ∧ H2 l = some (.lst ((st.drop k).reverse.map V.int)) ∧ H2 kd = some (.lst ((st.take k).map V.int)))
        ⟨v5, rfl, s2, e2, ek⟩ ?_ ?_⟩
      · rintro k σ H3 hk ⟨v5, rfl, s3, e3, ek3⟩
        obtain ⟨a, _, da, ta⟩ := drop_cons (st := st) (k := k) (by omega)
        rw [da, rev_cons] at e3
        refine ⟨_, rfl, .inl ⟨rfl, _, SqL.of ek3⟩, ?_⟩
        refine ⟨_, rfl, .inl ⟨rfl, _, SqL.of e3⟩, l, _, _, rfl, rfl, e3, last_snoc, ?_⟩
        rw [List.dropLast_concat]
        refine ⟨kd, _, _, rfl, rfl, (by rw [upd_ne kl]; exact ek3), ?_, some (.int ((0 : Int) + (k : Int))), rfl, same_set (same_set s3 hl) hkd0, ?_, ?_⟩
        · rw [List.length_map, List.length_take]
          exact Nat.lt_of_le_of_lt (by omega : min k st.length ≤ 3) (by decide)
        · rw [upd_ne kl.symm]
          exact upd_same
        · rw [upd_same, ta, List.map_append]
          rfl
      · rintro σ H3 ⟨v5, rfl, s3, e3, ek3⟩
        rw [Int.toNat_natCast] at e3 ek3
        have kk : ∀ k ∈ st.take (M.rank s).toNat, 0 ≤ k ∧ k < M.n := fun k hk => ok k (List.mem_of_mem_take hk)
        refine ⟨_, rfl, .inl ⟨rfl, _, SqL.of e3⟩, ?_⟩
        refine ⟨_, rfl, _, rfl, _, rfl, m, kd, M, s, _, rfl, hMA.same s3, g, q.1, q.2, SqL.of ek3, kk, (by rw [List.length_take, Nat.min_eq_left le]), ?_⟩
        refine ⟨l, _, _, rfl, rfl, e3, ?_, _, _, _, rfl, same_set s3 hl, ?_⟩
        · rw [List.length_map, List.length_reverse, List.length_drop]
          have : ts.length ≤ 400 := by
            unfold treeB at tb
            rw [Bool.and_eq_true, Bool.and_eq_true] at tb
            exact of_decide_eq_true tb.1.1
          rw [List.length_drop] at l2
          exact Nat.lt_of_le_of_lt (by omega : st.length - (M.rank s).toNat ≤ 400) (by decide)
        · rw [upd_same, sn]
          unfold stepS
          rw [rev_cons]
    · rintro σ H' ⟨v7, v8, v9, rfl, s1, e1⟩
      rw [lt, Nat.sub_self, List.drop_zero, (stack_one g tb).1] at e1
      exact ⟨_, rfl, .inl ⟨l, _, 0, _, rfl, rfl, SqL.of e1, rfl, fin _ s1⟩⟩
theorem ok_treemachine (T : Txt K mg A) : FnOk P w K mg base CX0 1 A.a_law_tree_machine A.d_law_tree_machine ["numbers", "ranks", "outs", "states"] (spTreeMachine K) := by
  refine T.F_law_tree_machine.ok sc_law_tree_machine (fun vs H Q E h => ?_) (fun cdv Ar outer s H vs Q E hr h => ?_)
  · obtain ⟨_, _, _, _, _, _, _, rfl, _⟩ := h
    rfl
  · obtain ⟨p, r, ms, rs, o, x, n, rfl, rfl, hS, hm, hR, hrs, o1, o4, n1, n6, fin⟩ := h
    refine ⟨_, (pss_cons (ps_set (i := 4) sc_law_tree_machine.nd rfl (Or.inl rfl) (pe_lst pa_nil))
      (pss_cons (ps_for PassesOwn.never rfl (pi_range1 (by rfl) T.n_range (pa_cons (pe_callB call_len_seq (by rfl) T.n_len PySem.boot_len (pa_cons (pv 1) pa_nil)) pa_nil)) (pg_name (i := 5) sc_law_tree_machine.nd rfl (Or.inr rfl))
        (pss_cons (ps_set (i := 6) sc_law_tree_machine.nd rfl (Or.inl rfl) (pe_ix (r := rIx K) ix_seq (pe_lst (pa_cons pe_int (pa_cons (pv 3) (pa_cons (pe_op op_mul (pv 3) (pv 3)) pa_nil)))) (pe_ix (r := rIx K) ix_seq (pv 1) (pv 5) (fun _ _ => rfl)) (fun _ _ => rfl)))
          (pss_one (ps_expr (pe_bm PySem.F.plainAttrs_list PySem.F.slot_list_append PySem.F.type_list_append mt_append (pv 4) (pa_cons (pe_callTy call_tuple_of (by rfl) T.n_tuple (by decide +kernel) (pa_cons (pe_lc (own := [("k", 9)]) (g := (gName 9)) (tt := tYes) rfl sc_law_tree_machine.nd (pi_range1 (by rfl) T.n_range (pa_cons (pv 6) pa_nil)) (blkOk_by (N := ["numbers", "ranks", "outs", "states", "rules", "symbol", "size", "outputs", "state", "k"]) (sc := defScope s_law_tree_machine) (by decide +kernel)) (fun _ _ _ _ _ => (pg_name (i := 9) sc_law_tree_machine.nd rfl (Or.inl rfl))) (fun _ _ _ _ _ => pts_nil) (fun _ _ _ _ _ => (pe_op op_mod (pe_op op_fdiv (pe_ix (r := rIx K) ix_seq (pv 0) (pe_op op_mod (pe_callTy (T := "int") call_int1 (by rfl) T.n_int (by decide +kernel) (pa_cons (pe_op op_add (pe_op op_mul pe_int (pv 5)) (pv 9)) pa_nil)) (pe_callB (r := rLenC K) call_lenC (by rfl) T.n_len PySem.boot_len (pa_cons (pv 0) pa_nil))) (fun _ _ => rfl)) pe_int) (pv 3)))) pa_nil)) pa_nil))))))
      (pss_cons (ps_setLc (i := 7) (own := [("state", 8)]) (g := (gName 8)) (tt := tYes) rfl sc_law_tree_machine.nd rfl rfl (sw_true rfl rfl rfl (by decide +kernel)) (pi_range1 (by rfl) T.n_range (pa_cons (pv 3) pa_nil)) (blkOk_by (N := ["numbers", "ranks", "outs", "states", "rules", "symbol", "size", "outputs", "state", "k"]) (sc := defScope s_law_tree_machine) (by decide +kernel)) (fun _ _ _ _ _ => (pg_name (i := 8) sc_law_tree_machine.nd rfl (Or.inl rfl))) (fun _ _ _ _ _ => pts_nil) (fun _ _ _ _ _ => (pe_op op_mod (pe_op op_fdiv (pe_ix (r := rIx K) ix_seq (pv 0) (pe_op op_mod (pe_callTy (T := "int") call_int1 (by rfl) T.n_int (by decide +kernel) (pa_cons (pe_op op_add pe_int (pe_op op_mul pe_int (pv 8))) pa_nil)) (pe_callB (r := rLenC K) call_lenC (by rfl) T.n_len PySem.boot_len (pa_cons (pv 0) pa_nil))) (fun _ _ => rfl)) pe_int) (pv 2))))
      (pss_one (ps_ret (pe_tup (pa_cons (pv 1) (pa_cons (pv 2) (pa_cons (pe_callTy call_tuple_of (by rfl) T.n_tuple (by decide +kernel) (pa_cons (pv 4) pa_nil)) (pa_cons (pe_callTy call_tuple_of (by rfl) T.n_tuple (by decide +kernel) (pa_cons (pv 7) pa_nil)) pa_nil)))))))))), ?_⟩
    obtain ⟨r1, r5, rb, _⟩ := ranks_iff.mp hrs
    refine ⟨Nat.zero_le _, fun l hl => ?_⟩
    have s0 := same_upd (o := .lst []) (Same.refl H) hl
    have lS : (ms.map V.int).length = ms.length := List.length_map ..
    refine ⟨_, rfl, r, _, rfl, .inr (rd_t (rd_same s0 hR)), ?_⟩
    rw [show (rs.map V.int).length = rs.length from List.length_map ..]
    refine ⟨rs.length, rfl, by omega, by omega, for_range (fun j σ H' => ∃ (qs : List Addr) (rows : List (List Int)) (v5 v6 v9 : Option V), σ = [some (.ref p), some (.ref r), some (.int o), some (.int (n : Int)), some (.ref l), v5, v6, none, none, v9] ∧ Same H H' ∧ H' l = some (.lst (qs.map V.ref)) ∧
        qs.length = j ∧ rows.length = j ∧ (∀ (i : Nat) (q : Addr) (w : List Int), qs[i]? = some q → rows[i]? = some w → H' q = some (.tup (w.map V.int))) ∧ (∀ (i : Nat) (x : Int) (w : List Int), rs[i]? = some x → rows[i]? = some w → w.length = n ^ x.toNat) ∧ ∀ w ∈ rows, Lt (n : Int) w)
      ⟨[], [], none, none, none, rfl, s0, upd_same, rfl, rfl, (fun i q w e => by simp at e), (fun i x w _ e => by simp at e), fun w hw => absurd hw (by simp)⟩ ?_ ?_⟩
    · rintro j σ H' hj ⟨qs, rows, v5, v6, v9, rfl, s1, e1, lq, lr, row, sz, lt⟩
      have hj : j < rs.length := hj
      have hx : rs[((0 : Int) + (j : Int)).toNat]? = some rs[j] := by
        have e : ((0 : Int) + (j : Int)).toNat = j := by omega
        rw [e]
        exact List.getElem?_eq_getElem hj
      obtain ⟨x0, x3⟩ := rb _ (List.getElem_mem hj)
      refine ⟨_, rfl, _, rfl, _, rfl, _, _, rfl, rfl, .inl ⟨by omega, by omega⟩, (by show 3 ≤ sizeLine; decide), fun d hd => ?_⟩
      have s2 := same_upd (o := .lst [.int 1, .int (n : Int), .int ((n : Int) * (n : Int))]) s1 hd
      have e2 := same_upd (o := .lst [.int 1, .int (n : Int), .int ((n : Int) * (n : Int))]) (Same.refl H') hd _ _ e1
      have row2 : ∀ (i : Nat) (q : Addr) (w : List Int), qs[i]? = some q → rows[i]? = some w → (upd H' d (.lst [.int 1, .int (n : Int), .int ((n : Int) * (n : Int))])) q = some (.tup (w.map V.int)) := fun i q w a b => same_upd (Same.refl H') hd _ _ (row i q w a b)
      have ed : (upd H' d (.lst [.int 1, .int (n : Int), .int ((n : Int) * (n : Int))])) d = some (.lst (([1, (n : Int), (n : Int) * (n : Int)] : List Int).map V.int)) := upd_same
      generalize upd H' d (.lst [.int 1, .int (n : Int), .int ((n : Int) * (n : Int))]) = H2 at *
      refine ⟨_, rfl, _, rfl, .inr (.inl ⟨r, _, _, _, rfl, rfl, rd_t (rd_same s2 hR), atI_get? (by omega) hx, ?_⟩)⟩
      refine .inl ⟨d, _, _, _, rfl, rfl, SqL.of ed, atI_get? x0 (size_at x0 x3), ?_⟩
      have en : ((n : Int)) ^ rs[j].toNat = ((n ^ rs[j].toNat : Nat) : Int) := by rw [Int.natCast_pow]
      rw [en]
      refine ⟨_, rfl, .inl ⟨rfl, _, SqL.of e2⟩, ?_⟩
      have big : n ^ rs[j].toNat ≤ 36 := by
        have h2 : rs[j].toNat ≤ 2 := by omega
        exact Nat.le_trans (Nat.pow_le_pow_left n6 _) (Nat.pow_le_pow_right (by decide) h2)
      refine ⟨_, rfl, n ^ rs[j].toNat, rfl, by omega, by omega, fun D hD => ?_⟩
      have sD : ∀ o : HO, Same H2 (upd H2 D o) := fun o => same_upd (Same.refl _) hD
      refine lc_range (fun t H3 => ∃ u : List Int, H3 = upd H2 D (.lst (u.map V.int)) ∧ u.length = t ∧ Lt (n : Int) u) ⟨[], rfl, rfl, fun z hz => absurd hz (by simp)⟩ ?_ ?_
      · rintro t H3 ht ⟨u, rfl, d1, d2⟩
        have ht : t < n ^ rs[j].toNat := ht
        refine ⟨rfl, ?_⟩
        have pS := (sD (.lst (u.map V.int))).seq (s2.seq hS)
        refine ⟨_, rfl, _, rfl, _, _, rfl, rfl, .inl ⟨by decide, by decide⟩, _, rfl, _, _, rfl, rfl, .inl ⟨_, rfl, ?_⟩⟩
        refine ⟨_, rfl, p, _, rfl, .inl pS, ?_⟩
        rw [lS]
        obtain ⟨z, hz, z0, i0⟩ := hm.at_ (37 * ((0 : Int) + (j : Int)) + ((0 : Int) + (t : Int)))
        refine ⟨_, _, rfl, rfl, (by have := hm.ne; show 0 < (ms.length : Int); omega), .inl ⟨p, _, _, _, rfl, rfl, pS, atI_get? i0 hz, ?_⟩⟩
        refine ⟨_, _, rfl, rfl, ⟨by decide, by decide⟩, _, rfl, _, _, rfl, rfl, (by show (0 : Int) < (n : Int); omega), ?_⟩
        refine ⟨_, upd_same, ?_, u ++ [_], (by rw [upd_upd, List.map_append]; rfl), (by rw [List.length_append, d1]; rfl), fun y hy => ?_⟩
        · rw [List.length_map]
          exact Nat.lt_of_le_of_lt (by omega : u.length ≤ 36) (by decide)
        · rcases List.mem_append.mp hy with e | e
          · exact d2 y e
          · rw [List.mem_singleton.mp e]
            exact ⟨Int.emod_nonneg _ (by omega), Int.emod_lt_of_pos _ (by omega)⟩
      · rintro H3 ⟨u, rfl, d1, d2⟩
        refine ⟨D, _, rfl, .inl ⟨SqL.of upd_same, fun q hq => ?_⟩⟩
        have s3 := same_upd (o := .tup (u.map V.int)) (sD (.lst (u.map V.int))) hq
        have eq_ : (upd (upd H2 D (.lst (u.map V.int))) q (.tup (u.map V.int))) q = some (.tup (u.map V.int)) := upd_same
        generalize upd (upd H2 D (.lst (u.map V.int))) q (.tup (u.map V.int)) = H4 at *
        have e4 := s3 _ _ e2
        have ql : q ≠ l := fun z => by
          rw [z, e4] at eq_
          cases eq_
        have sl := (s2.trans s3)
        refine ⟨l, _, _, rfl, rfl, e4, ?_, qs ++ [q], rows ++ [u], _, _, _, rfl, same_set sl hl, ?_, ?_, ?_, fun i q' w a b => ?_, fun i x w a b => ?_, fun w hw => ?_⟩
        · rw [List.length_map]
          exact Nat.lt_of_le_of_lt (by omega : qs.length ≤ 5) (by decide)
        · rw [upd_same, List.map_append]
          rfl
        · rw [List.length_append, lq]
          rfl
        · rw [List.length_append, lr]
          rfl
        · rcases Nat.lt_or_ge i j with c1 | c1
          · rw [List.getElem?_append_left (by omega)] at a b
            have := s3 _ _ (row2 i q' w a b)
            rw [upd_ne (fun z => by rw [z, e4] at this; cases this)]
            exact this
          · have il := (List.getElem?_eq_some_iff.mp a).1
            rw [List.length_append] at il
            have : i = j := by
              have : [q].length = 1 := rfl
              omega
            subst this
            rw [List.getElem?_append_right (by omega), show i - qs.length = 0 by omega] at a
            rw [List.getElem?_append_right (by omega), show i - rows.length = 0 by omega] at b
            cases a
            cases b
            rw [upd_ne ql]
            exact eq_
        · rcases Nat.lt_or_ge i j with c1 | c1
          · rw [List.getElem?_append_left (by omega)] at b
            exact sz i x w a b
          · have il := (List.getElem?_eq_some_iff.mp b).1
            rw [List.length_append] at il
            have : i = j := by
              have : [u].length = 1 := rfl
              omega
            subst this
            rw [List.getElem?_append_right (by omega), show i - rows.length = 0 by omega] at b
            cases b
            rw [List.getElem?_eq_getElem hj] at a
            cases a
            exact d1
        · rcases List.mem_append.mp hw with e | e
          · exact lt w e
          · rw [List.mem_singleton.mp e]
            exact d2
    · rintro σ H' ⟨qs, rows, v5, v6, v9, rfl, s1, e1, lq, lr, row, sz, lt⟩
      refine ⟨_, rfl, n, rfl, by omega, by omega, fun D hD => ?_⟩
      have sD : ∀ o : HO, Same H' (upd H' D o) := fun o => same_upd (Same.refl _) hD
      refine lc_range (fun t H3 => ∃ u : List Int, H3 = upd H' D (.lst (u.map V.int)) ∧ u.length = t ∧ Lt o u) ⟨[], rfl, rfl, fun z hz => absurd hz (by simp)⟩ ?_ ?_
      · rintro t H3 ht ⟨u, rfl, d1, d2⟩
        have ht : t < n := ht
        refine ⟨rfl, ?_⟩
        have pS := (sD (.lst (u.map V.int))).seq (s1.seq hS)
        refine ⟨_, rfl, _, rfl, _, _, rfl, rfl, .inl ⟨by decide, by decide⟩, _, _, rfl, rfl, .inl ⟨_, rfl, ?_⟩⟩
        refine ⟨_, rfl, p, _, rfl, .inl pS, ?_⟩
        rw [lS]
        obtain ⟨z, hz, z0, i0⟩ := hm.at_ (11 + 7 * ((0 : Int) + (t : Int)))
        refine ⟨_, _, rfl, rfl, (by have := hm.ne; show 0 < (ms.length : Int); omega), .inl ⟨p, _, _, _, rfl, rfl, pS, atI_get? i0 hz, ?_⟩⟩
        refine ⟨_, _, rfl, rfl, ⟨by decide, by decide⟩, _, rfl, _, _, rfl, rfl, (by show (0 : Int) < o; omega), ?_⟩
        refine ⟨_, upd_same, ?_, u ++ [_], (by rw [upd_upd, List.map_append]; rfl), (by rw [List.length_append, d1]; rfl), fun y hy => ?_⟩
        · rw [List.length_map]
          exact Nat.lt_of_le_of_lt (by omega : u.length ≤ 6) (by decide)
        · rcases List.mem_append.mp hy with e | e
          · exact d2 y e
          · rw [List.mem_singleton.mp e]
            exact ⟨Int.emod_nonneg _ (by omega), Int.emod_lt_of_pos _ (by omega)⟩
      · rintro H3 ⟨u, rfl, d1, d2⟩
        have d1 : u.length = n := d1
        have sU := sD (.lst (u.map V.int))
        have eD : (upd H' D (.lst (u.map V.int))) D = some (.lst (u.map V.int)) := upd_same
        generalize upd H' D (.lst (u.map V.int)) = H3 at *
        refine ⟨_, rfl, _, rfl, ?_⟩
        refine ⟨_, rfl, l, _, rfl, .inl ⟨SqL.of (sU _ _ e1), fun tr htr => ?_⟩⟩
        have s4 := same_upd (o := .tup (qs.map V.ref)) sU htr
        have e4 : (upd H3 tr (.tup (qs.map V.ref))) tr = some (.tup (qs.map V.ref)) := upd_same
        have eD4 := same_upd (o := .tup (qs.map V.ref)) (Same.refl H3) htr _ _ eD
        generalize upd H3 tr (.tup (qs.map V.ref)) = H4 at *
        refine ⟨_, rfl, D, _, rfl, .inl ⟨SqL.of eD4, fun to hto => ?_⟩⟩
        have s5 := same_upd (o := .tup (u.map V.int)) (Same.refl H4) hto
        have e5 : (upd H4 to (.tup (u.map V.int))) to = some (.tup (u.map V.int)) := upd_same
        generalize upd H4 to (.tup (u.map V.int)) = H5 at *
        refine ⟨(by show 4 ≤ sizeLine; decide), fun mm hmm => ?_⟩
        have s6 := same_upd (o := .tup [.ref r, .int o, .ref tr, .ref to]) (Same.refl H5) hmm
        have sA := ((s1.trans s4).trans s5).trans s6
        refine fin ⟨rs, o, rows, u⟩ _ mm ⟨hrs, o1, o4, by show 1 ≤ u.length; omega, by show u.length ≤ 6; omega, d2, by show rows.length = rs.length; exact lr, fun i x w a b => by show w.length = u.length ^ x.toNat; rw [d1]; exact sz i x w a b, fun w hw => by show Lt (u.length : Int) w; rw [d1]; exact lt w hw⟩ rfl rfl d1 sA
          ⟨r, tr, to, qs, upd_same, rd_same sA hR, s6 _ _ (s5 _ _ e4), s6 _ _ e5, by show qs.length = rows.length; omega, fun i q w a b => s6 _ _ (s5 _ _ (s4 _ _ (row i q w a b)))⟩
end
end K61

set_option Elab.async false
set_option linter.all false
set_option maxRecDepth 100000
set_option maxHeartbeats 4000000
namespace K61
open PySem PySem.Spec PyProof.Rows L2 Mz
/-- a machine that is none -/
def Bad (H : Hp) (m : Addr) : Prop := ∃ M : TM, TMA H m M ∧ ¬ GoodT M ∧ M.os.natAbs < 2 ^ 60 ∧ M.outs.length < 2 ^ 60
theorem Bad.same {H H' : Hp} {m : Addr} (h : Bad H m) (s : Same H H') : Bad H' m := by
  obtain ⟨M, a, b⟩ := h
  exact ⟨M, a.same s, b⟩
theorem Bad.kp {Pt : Addr} {H H' : Hp} {m : Addr} (t : GxR.TabG H Pt) (k : Kp Pt H H') (h : Bad H m) : Bad H' m := by
  obtain ⟨M, a, b⟩ := h
  exact ⟨M, k.tma t a, b⟩
theorem cut_init {xs : List V} (h : 1 ≤ xs.length) : cutV xs none (some (-1)) = xs.dropLast := by
  unfold cutV
  rw [HT.sIx_none, List.drop_zero, Nat.sub_zero, List.dropLast_eq_take]
  congr 1
  show (if (-1 : Int) < 0 then ((-1 : Int) + (xs.length : Int)).toNat else min (-1 : Int).toNat xs.length) = _
  rw [if_pos (by decide)]
  omega
theorem cutRef {qs qi : List Addr} {ql : Addr} (e : qs = qi ++ [ql]) : cutV (qs.map V.ref) none (some (-1)) = qi.map V.ref := by
  rw [cut_init (by rw [List.length_map, e, List.length_append]; show 1 ≤ _ + 1; omega), e, List.map_append]
  exact List.dropLast_concat
theorem cutInit {ns : List Int} (h : 1 ≤ ns.length) : cutV (ns.map V.int) none (some (-1)) = ns.dropLast.map V.int := by
  rw [cut_init (by rw [List.length_map]; exact h), List.map_dropLast]
theorem cutTail {ns : List Int} (h : 1 ≤ ns.length) : cutV (ns.map V.int) (some 1) none = (ns.drop 1).map V.int := by
  rw [cut_drop (by decide) (by rw [List.length_map]; omega), List.map_drop]
  rfl
theorem atLast {qs qi : List Addr} {ql : Addr} (e : qs = qi ++ [ql]) : atI (qs.map V.ref) (-1) = some (.ref ql) := by
  have l : (qs.map V.ref).length = qi.length + 1 := by rw [List.length_map, e, List.length_append]; rfl
  unfold atI ixN
  rw [l, if_neg (by decide), if_pos (by omega)]
  show (qs.map V.ref)[((-1 : Int) + ((qi.length + 1 : Nat) : Int)).toNat]? = _
  rw [show ((-1 : Int) + ((qi.length + 1 : Nat) : Int)).toNat = qi.length by omega, e, List.map_append, List.getElem?_append_right (by rw [List.length_map]; exact Nat.le_refl _), List.length_map, Nat.sub_self]
  rfl
theorem noPart {σ : L2.St} {H : Hp} {Q : Option Int → Hp → Prop} (h : Q none H) : tNoPart σ H Q := h
theorem fresh_same {o : HO} {H : Hp} {p : Addr} (h : H p = none) : Same H (upd H p o) ∧ (upd H p o) p = some o := ⟨same_upd (Same.refl H) h, upd_same⟩
theorem catL_any {H : Hp} {a b : Addr} {xs ys : List V} {Q : VK} (h1 : H a = some (.lst xs)) (h2 : H b = some (.lst ys)) (l : xs.length + ys.length ≤ sizeLine) (q : ∀ H' p, Same H H' → H' p = some (.lst (xs ++ ys)) → Q (.ref p) H') : rCat (.ref a) (.ref b) H Q :=
  ⟨a, b, xs, ys, rfl, rfl, h1, h2, l, fun p hp => q _ p (same_upd (Same.refl H) hp) upd_same⟩
theorem left_at {α : Type} {l : List α} {x y : α} {i : Nat} (h : l[i]? = some x) : (l ++ [y])[i]? = some x := by
  rw [List.getElem?_append_left (List.getElem?_eq_some_iff.mp h).1]
  exact h
theorem mid_at {α : Type} {l : List α} {y z : α} (h : y = z) : (l ++ [y])[l.length]? = some z := by
  rw [List.getElem?_append_right (Nat.le_refl _), Nat.sub_self, h]
  rfl
theorem rows_snoc {H : Hp} {qi : List Addr} {ri : List (List Int)} {q' : Addr} {w' : List Int} (h : ∀ (i : Nat) (q : Addr) (w : List Int), qi[i]? = some q → ri[i]? = some w → H q = some (.tup (w.map V.int))) (l : qi.length = ri.length) (h2 : H q' = some (.tup (w'.map V.int))) :
    ∀ (i : Nat) (q : Addr) (w : List Int), (qi ++ [q'])[i]? = some q → (ri ++ [w'])[i]? = some w → H q = some (.tup (w.map V.int)) := by
  intro i q w a b
  rcases Nat.lt_or_ge i qi.length with c | c
  · rw [List.getElem?_append_left c] at a
    rw [List.getElem?_append_left (by omega)] at b
    exact h i q w a b
  · have il := (List.getElem?_eq_some_iff.mp a).1
    rw [List.length_append] at il
    have e : i = qi.length := by
      have : [q'].length = 1 := rfl
      omega
    subst e
    rw [mid_at rfl] at a
    rw [l, mid_at rfl] at b
    cases a
    cases b
    exact h2
def spBad : Sp := fun vs H Q _ => ∃ (m : Addr) (M : TM) (x : Int), vs = [.ref m, .int x] ∧ TMA H m M ∧ GoodT M ∧ ∀ H' q, Same H H' → Bad H' q → Q (.ref q) H'
section
variable {P : Program} {w : World} {K : PySem.W.Frag} {mg : Str → Option Value} {base : Heap} {A : Ads} {c Pt : Addr}
theorem ok_bad (T : Txt K mg A) : FnOk P w K mg base CX0 1 A.a_law_bad A.d_law_bad ["machine", "number"] spBad := by
  refine T.F_law_bad.ok sc_law_bad (fun vs H Q E h => ?_) (fun cdv Ar outer s H vs Q E hr h => ?_)
  · obtain ⟨_, _, _, rfl, _⟩ := h
    rfl
  · obtain ⟨m, M, x, rfl, ⟨r, ru, ou, qs, hM⟩, g, fin⟩ := h
    refine ⟨_, (pss_cons (ps_asg (pv 0) (pg_tup rfl (pgs_cons (pg_name (i := 2) sc_law_bad.nd rfl (Or.inl rfl)) (pgs_cons (pg_name (i := 3) sc_law_bad.nd rfl (Or.inl rfl)) (pgs_cons (pg_name (i := 4) sc_law_bad.nd rfl (Or.inl rfl)) (pgs_cons (pg_name (i := 5) sc_law_bad.nd rfl (Or.inl rfl)) pgs_nil))))))
      (pss_cons (ps_set (i := 6) sc_law_bad.nd rfl (Or.inl rfl) (pe_op op_mod (pv 1) pe_int))
      (pss_cons (ps_set (i := 7) sc_law_bad.nd rfl (Or.inl rfl) (pe_op op_catA (pe_slice sl_tupA (pv 4) po_none (po_some (pe_un un_neg pe_int))) (pe_tup (pa_cons (pe_op op_catA (pe_ix (r := rIx K) ix_seq (pv 4) (pe_un un_neg pe_int) (fun _ _ => rfl)) (pe_tup (pa_cons pe_int pa_nil))) pa_nil))))
      (pss_cons (ps_set (i := 8) sc_law_bad.nd rfl (Or.inl rfl) (pe_lst (pa_cons (pe_tup (pa_cons (pe_op op_catA (pe_tup (pa_cons pe_int pa_nil)) (pe_slice sl_tupA (pv 2) (po_some pe_int) po_none)) (pa_cons (pv 3) (pa_cons (pv 4) (pa_cons (pv 5) pa_nil))))) (pa_cons (pe_tup (pa_cons (pe_op op_catA (pv 2) (pe_tup (pa_cons pe_int (pa_cons pe_int (pa_cons pe_int (pa_cons pe_int (pa_cons pe_int pa_nil))))))) (pa_cons (pv 3) (pa_cons (pv 4) (pa_cons (pv 5) pa_nil))))) pa_nil))))
      (pss_cons (ps_set (i := 8) sc_law_bad.nd rfl (Or.inl rfl) (pe_op op_cat (pv 8) (pe_lst (pa_cons (pe_tup (pa_cons (pv 2) (pa_cons pe_int (pa_cons (pv 4) (pa_cons (pv 5) pa_nil))))) (pa_cons (pe_tup (pa_cons (pv 2) (pa_cons pe_int (pa_cons (pv 4) (pa_cons (pv 5) pa_nil))))) (pa_cons (pe_tup (pa_cons (pv 2) (pa_cons (pv 3) (pa_cons (pe_slice sl_tupA (pv 4) po_none (po_some (pe_un un_neg pe_int))) (pa_cons (pv 5) pa_nil))))) pa_nil))))))
      (pss_cons (ps_set (i := 8) sc_law_bad.nd rfl (Or.inl rfl) (pe_op op_cat (pv 8) (pe_lst (pa_cons (pe_tup (pa_cons (pv 2) (pa_cons (pv 3) (pa_cons (pv 7) (pa_cons (pv 5) pa_nil))))) (pa_cons (pe_tup (pa_cons (pv 2) (pa_cons (pv 3) (pa_cons (pe_op op_catA (pe_slice sl_tupA (pv 4) po_none (po_some (pe_un un_neg pe_int))) (pe_tup (pa_cons (pe_slice sl_tupA (pe_ix (r := rIx K) ix_seq (pv 4) (pe_un un_neg pe_int) (fun _ _ => rfl)) po_none (po_some (pe_un un_neg pe_int))) pa_nil))) (pa_cons (pv 5) pa_nil))))) pa_nil)))))
      (pss_cons (ps_set (i := 8) sc_law_bad.nd rfl (Or.inl rfl) (pe_op op_cat (pv 8) (pe_lst (pa_cons (pe_tup (pa_cons (pv 2) (pa_cons (pv 3) (pa_cons (pe_op op_catA (pe_slice sl_tupA (pv 4) po_none (po_some (pe_un un_neg pe_int))) (pe_tup (pa_cons (pe_op op_catA (pe_tup (pa_cons (pe_callB call_len_seq (by rfl) T.n_len PySem.boot_len (pa_cons (pv 5) pa_nil)) pa_nil)) (pe_slice sl_tupA (pe_ix (r := rIx K) ix_seq (pv 4) (pe_un un_neg pe_int) (fun _ _ => rfl)) (po_some pe_int) po_none)) pa_nil))) (pa_cons (pv 5) pa_nil))))) pa_nil))))
      (pss_cons (ps_set (i := 8) sc_law_bad.nd rfl (Or.inl rfl) (pe_op op_cat (pv 8) (pe_lst (pa_cons (pe_tup (pa_cons (pv 2) (pa_cons (pv 3) (pa_cons (pv 4) (pa_cons (pe_op op_catA (pe_slice sl_tupA (pv 5) po_none (po_some (pe_un un_neg pe_int))) (pe_tup (pa_cons (pv 3) pa_nil))) pa_nil))))) (pa_cons (pe_tup (pa_cons (pv 2) (pa_cons (pv 3) (pa_cons (pv 4) (pa_cons (pe_op op_catA (pe_slice sl_tupA (pv 5) po_none (po_some (pe_un un_neg pe_int))) (pe_tup (pa_cons (pe_un un_neg pe_int) pa_nil))) pa_nil))))) pa_nil)))))
      (pss_one (ps_ret (pe_ix (r := rIx K) ix_seq (pv 8) (pv 6) (fun _ _ => rfl)))))))))))), ?_⟩
    have rs1 := (ranks_iff.mp g.rk).1
    have rs5 := (ranks_iff.mp g.rk).2.1
    have rl := g.rl
    have ou1 := g.n1
    have ou6 := g.n6
    have osm : M.os.natAbs < 2 ^ 60 := by have := g.o1; have := g.o4; omega
    have nsm : M.outs.length < 2 ^ 60 := by omega
    have nsm2 : ∀ z : List Int, z.length = 1 → (M.outs.dropLast ++ z).length < 2 ^ 60 := fun z hz => by
      rw [List.length_append, List.length_dropLast, hz]
      omega
    obtain ⟨ri, wl, eru⟩ : ∃ ri wl, M.rules = ri ++ [wl] := ⟨M.rules.dropLast, M.rules.getLast (by intro z; rw [z] at rl; simp at rl; omega), (List.dropLast_concat_getLast _).symm⟩
    have lru : M.rules.length = ri.length + 1 := by rw [eru, List.length_append]; rfl
    have lqs := hM.len
    obtain ⟨qi, ql, eqs⟩ : ∃ qi ql, qs = qi ++ [ql] := ⟨qs.dropLast, qs.getLast (by intro z; rw [z] at lqs; simp at lqs; omega), (List.dropLast_concat_getLast _).symm⟩
    have lq2 : qs.length = qi.length + 1 := by rw [eqs, List.length_append]; rfl
    have lqi : qi.length = ri.length := by omega
    have ril : ri.length < M.rs.length := by omega
    have hwl : H ql = some (.tup (wl.map V.int)) := hM.row qi.length ql wl (by rw [eqs]; exact mid_at rfl) (by rw [eru, lqi]; exact mid_at rfl)
    have szl := g.sz ri.length _ _ (List.getElem?_eq_getElem ril) (show M.rules[ri.length]? = some wl by rw [eru]; exact mid_at rfl)
    have wl1 : 1 ≤ wl.length := by
      rw [szl]
      exact Nat.pow_pos (by omega)
    have wl36 : wl.length ≤ 36 := by
      have r3 := ((ranks_iff.mp g.rk).2.2.1 _ (List.getElem_mem ril)).2
      rw [szl]
      exact Nat.le_trans (Nat.pow_le_pow_left ou6 _) (Nat.pow_le_pow_right (by decide) (show M.rs[ri.length].toNat ≤ 2 by omega))
    refine ⟨_, rfl, m, _, rfl, SqT.of hM.top, rfl, _, _, rfl, _, _, rfl, _, _, rfl, _, _, rfl, rfl, ?_⟩
    refine ⟨_, rfl, _, _, rfl, rfl, (by show (0 : Int) < 10; decide), ?_⟩
    have S : Same H H := Same.refl H
    refine ⟨_, rfl, _, rfl, _, rfl, ?_⟩
    refine slA_any hM.ru fun G1 q1 s eq1 => ?_
    replace hM := hM.same s
    replace hwl := s _ _ hwl
    replace S := S.trans s
    clear s
    rw [cutRef eqs] at eq1
    refine ⟨_, rfl, _, rfl, .inr (.inl ⟨ru, _, -1, _, rfl, rfl, SqT.of hM.ru, atLast eqs, ?_⟩)⟩
    refine ⟨(by show 1 ≤ sizeLine; decide), ?_⟩
    intro z1 hz1
    have sX := fresh_same (o := .tup [.int 0]) hz1
    revert sX
    generalize upd G1 z1 (.tup [.int 0]) = G2
    rintro ⟨s, ez1⟩
    clear hz1
    replace hM := hM.same s
    replace hwl := s _ _ hwl
    replace eq1 := s _ _ eq1
    replace S := S.trans s
    clear s
    refine catA_any hwl ez1 (by simp only [List.length_append, List.length_map, List.length_cons, List.length_nil, List.length_drop, List.length_dropLast, sizeLine_eq]; omega) fun G3 w1 s ew1 => ?_
    replace hM := hM.same s
    replace hwl := s _ _ hwl
    replace eq1 := s _ _ eq1
    replace ez1 := s _ _ ez1
    replace S := S.trans s
    clear s
    refine ⟨(by show 1 ≤ sizeLine; decide), ?_⟩
    intro u1 hu1
    have sX := fresh_same (o := .tup [.ref w1]) hu1
    revert sX
    generalize upd G3 u1 (.tup [.ref w1]) = G4
    rintro ⟨s, eu1⟩
    clear hu1
    replace hM := hM.same s
    replace hwl := s _ _ hwl
    replace eq1 := s _ _ eq1
    replace ez1 := s _ _ ez1
    replace ew1 := s _ _ ew1
    replace S := S.trans s
    clear s
    refine catA_any eq1 eu1 (by simp only [List.length_append, List.length_map, List.length_cons, List.length_nil, List.length_drop, List.length_dropLast, sizeLine_eq]; omega) fun G5 one s eone => ?_
    replace hM := hM.same s
    replace hwl := s _ _ hwl
    replace eq1 := s _ _ eq1
    replace ez1 := s _ _ ez1
    replace ew1 := s _ _ ew1
    replace eu1 := s _ _ eu1
    replace S := S.trans s
    clear s
    clear ez1
    clear eu1
    clear eq1
    refine ⟨(by show 1 ≤ sizeLine; decide), ?_⟩
    intro t3 ht3
    have sX := fresh_same (o := .tup [.int 3]) ht3
    revert sX
    generalize upd G5 t3 (.tup [.int 3]) = G6
    rintro ⟨s, et3⟩
    clear ht3
    replace hM := hM.same s
    replace hwl := s _ _ hwl
    replace ew1 := s _ _ ew1
    replace eone := s _ _ eone
    replace S := S.trans s
    clear s
    refine ⟨_, rfl, _, rfl, ?_⟩
    refine noPart ?_
    refine slA_rd hM.rs fun G7 rd s erd => ?_
    replace hM := hM.same s
    replace hwl := s _ _ hwl
    replace ew1 := s _ _ ew1
    replace eone := s _ _ eone
    replace et3 := s _ _ et3
    replace S := S.trans s
    clear s
    rw [cutTail rs1] at erd
    refine catA_rd (.inl et3) erd (by simp only [List.length_append, List.length_map, List.length_cons, List.length_nil, List.length_drop, List.length_dropLast, sizeLine_eq]; omega) fun G8 c0 s ec0 => ?_
    replace hM := hM.same s
    replace hwl := s _ _ hwl
    replace ew1 := s _ _ ew1
    replace eone := s _ _ eone
    replace et3 := s _ _ et3
    replace erd := rd_same s erd
    replace S := S.trans s
    clear s
    refine ⟨_, rfl, _, rfl, _, rfl, ?_⟩
    refine ⟨(by show 4 ≤ sizeLine; decide), ?_⟩
    intro m0 hm0
    have sX := fresh_same (o := .tup [.ref c0, .int M.os, .ref ru, .ref ou]) hm0
    revert sX
    generalize upd G8 m0 (.tup [.ref c0, .int M.os, .ref ru, .ref ou]) = G9
    rintro ⟨s, top⟩
    clear hm0
    replace hM := hM.same s
    replace hwl := s _ _ hwl
    replace ew1 := s _ _ ew1
    replace eone := s _ _ eone
    replace et3 := s _ _ et3
    replace erd := rd_same s erd
    replace ec0 := rd_same s ec0
    replace S := S.trans s
    have b0 : Bad G9 m0 := ⟨⟨3 :: M.rs.drop 1, M.os, M.rules, M.outs⟩, ⟨c0, ru, ou, qs, ⟨top, ec0, hM.ru, hM.ou, hM.len, fun i q w a b => hM.row i q w a b⟩⟩, (fun g => by have := ((ranks_iff.mp g.rk).2.2.1 3 List.mem_cons_self).2; omega), by first | exact osm | (show (0 : Int).natAbs < _; decide) | (show (5 : Int).natAbs < _; decide), by first | exact nsm | (show (M.outs.dropLast ++ _).length < _; exact nsm2 _ rfl)⟩
    clear s top
    clear et3
    clear erd
    clear ec0
    refine ⟨_, rfl, ?_⟩
    refine ⟨(by show 5 ≤ sizeLine; decide), ?_⟩
    intro t5 ht5
    have sX := fresh_same (o := .tup [.int 0, .int 0, .int 0, .int 0, .int 0]) ht5
    revert sX
    generalize upd G9 t5 (.tup [.int 0, .int 0, .int 0, .int 0, .int 0]) = G10
    rintro ⟨s, et5⟩
    clear ht5
    replace hM := hM.same s
    replace hwl := s _ _ hwl
    replace ew1 := s _ _ ew1
    replace eone := s _ _ eone
    replace b0 := b0.same s
    replace S := S.trans s
    clear s
    refine catA_rd hM.rs (.inl et5) (by simp only [List.length_append, List.length_map, List.length_cons, List.length_nil, List.length_drop, List.length_dropLast, sizeLine_eq]; omega) fun G11 c1 s ec1 => ?_
    replace hM := hM.same s
    replace hwl := s _ _ hwl
    replace ew1 := s _ _ ew1
    replace eone := s _ _ eone
    replace et5 := s _ _ et5
    replace b0 := b0.same s
    replace S := S.trans s
    clear s
    refine ⟨_, rfl, _, rfl, _, rfl, ?_⟩
    refine ⟨(by show 4 ≤ sizeLine; decide), ?_⟩
    intro m1 hm1
    have sX := fresh_same (o := .tup [.ref c1, .int M.os, .ref ru, .ref ou]) hm1
    revert sX
    generalize upd G11 m1 (.tup [.ref c1, .int M.os, .ref ru, .ref ou]) = G12
    rintro ⟨s, top⟩
    clear hm1
    replace hM := hM.same s
    replace hwl := s _ _ hwl
    replace ew1 := s _ _ ew1
    replace eone := s _ _ eone
    replace et5 := s _ _ et5
    replace ec1 := rd_same s ec1
    replace b0 := b0.same s
    replace S := S.trans s
    have b1 : Bad G12 m1 := ⟨⟨M.rs ++ [0, 0, 0, 0, 0], M.os, M.rules, M.outs⟩, ⟨c1, ru, ou, qs, ⟨top, (by rw [List.map_append]; exact ec1), hM.ru, hM.ou, hM.len, fun i q w a b => hM.row i q w a b⟩⟩, (fun g => by have h5 := (ranks_iff.mp g.rk).2.1; have : (M.rs ++ [0, 0, 0, 0, 0]).length ≤ 5 := h5; rw [List.length_append] at this; have q : ([0, 0, 0, 0, 0] : List Int).length = 5 := rfl; omega), by first | exact osm | (show (0 : Int).natAbs < _; decide) | (show (5 : Int).natAbs < _; decide), by first | exact nsm | (show (M.outs.dropLast ++ _).length < _; exact nsm2 _ rfl)⟩
    clear s top
    clear et5
    clear ec1
    refine ⟨(by show 2 ≤ sizeLine; decide), ?_⟩
    intro l1 hl1
    have sX := fresh_same (o := .lst [.ref m0, .ref m1]) hl1
    revert sX
    generalize upd G12 l1 (.lst [.ref m0, .ref m1]) = G13
    rintro ⟨s, el1⟩
    clear hl1
    replace hM := hM.same s
    replace hwl := s _ _ hwl
    replace ew1 := s _ _ ew1
    replace eone := s _ _ eone
    replace b0 := b0.same s
    replace b1 := b1.same s
    replace S := S.trans s
    clear s
    refine ⟨_, rfl, ?_⟩
    refine ⟨_, rfl, _, rfl, _, rfl, ?_⟩
    refine ⟨(by show 4 ≤ sizeLine; decide), ?_⟩
    intro m2 hm2
    have sX := fresh_same (o := .tup [.ref r, .int 0, .ref ru, .ref ou]) hm2
    revert sX
    generalize upd G13 m2 (.tup [.ref r, .int 0, .ref ru, .ref ou]) = G14
    rintro ⟨s, top⟩
    clear hm2
    replace hM := hM.same s
    replace hwl := s _ _ hwl
    replace ew1 := s _ _ ew1
    replace eone := s _ _ eone
    replace el1 := s _ _ el1
    replace b0 := b0.same s
    replace b1 := b1.same s
    replace S := S.trans s
    have b2 : Bad G14 m2 := ⟨⟨M.rs, 0, M.rules, M.outs⟩, ⟨r, ru, ou, qs, ⟨top, hM.rs, hM.ru, hM.ou, hM.len, fun i q w a b => hM.row i q w a b⟩⟩, (fun g => by have h1 : (1 : Int) ≤ 0 := g.o1; omega), by first | exact osm | (show (0 : Int).natAbs < _; decide) | (show (5 : Int).natAbs < _; decide), by first | exact nsm | (show (M.outs.dropLast ++ _).length < _; exact nsm2 _ rfl)⟩
    clear s top
    refine ⟨_, rfl, _, rfl, _, rfl, ?_⟩
    refine ⟨(by show 4 ≤ sizeLine; decide), ?_⟩
    intro m3 hm3
    have sX := fresh_same (o := .tup [.ref r, .int 5, .ref ru, .ref ou]) hm3
    revert sX
    generalize upd G14 m3 (.tup [.ref r, .int 5, .ref ru, .ref ou]) = G15
    rintro ⟨s, top⟩
    clear hm3
    replace hM := hM.same s
    replace hwl := s _ _ hwl
    replace ew1 := s _ _ ew1
    replace eone := s _ _ eone
    replace el1 := s _ _ el1
    replace b0 := b0.same s
    replace b1 := b1.same s
    replace b2 := b2.same s
    replace S := S.trans s
    have b3 : Bad G15 m3 := ⟨⟨M.rs, 5, M.rules, M.outs⟩, ⟨r, ru, ou, qs, ⟨top, hM.rs, hM.ru, hM.ou, hM.len, fun i q w a b => hM.row i q w a b⟩⟩, (fun g => by have h1 : (5 : Int) ≤ 4 := g.o4; omega), by first | exact osm | (show (0 : Int).natAbs < _; decide) | (show (5 : Int).natAbs < _; decide), by first | exact nsm | (show (M.outs.dropLast ++ _).length < _; exact nsm2 _ rfl)⟩
    clear s top
    refine ⟨_, rfl, _, rfl, ?_⟩
    refine ⟨_, rfl, _, rfl, _, rfl, ?_⟩
    refine slA_any hM.ru fun G16 q4 s eq4 => ?_
    replace hM := hM.same s
    replace hwl := s _ _ hwl
    replace ew1 := s _ _ ew1
    replace eone := s _ _ eone
    replace el1 := s _ _ el1
    replace b0 := b0.same s
    replace b1 := b1.same s
    replace b2 := b2.same s
    replace b3 := b3.same s
    replace S := S.trans s
    clear s
    rw [cutRef eqs] at eq4
    refine ⟨_, rfl, ?_⟩
    refine ⟨(by show 4 ≤ sizeLine; decide), ?_⟩
    intro m4 hm4
    have sX := fresh_same (o := .tup [.ref r, .int M.os, .ref q4, .ref ou]) hm4
    revert sX
    generalize upd G16 m4 (.tup [.ref r, .int M.os, .ref q4, .ref ou]) = G17
    rintro ⟨s, top⟩
    clear hm4
    replace hM := hM.same s
    replace hwl := s _ _ hwl
    replace ew1 := s _ _ ew1
    replace eone := s _ _ eone
    replace el1 := s _ _ el1
    replace eq4 := s _ _ eq4
    replace b0 := b0.same s
    replace b1 := b1.same s
    replace b2 := b2.same s
    replace b3 := b3.same s
    replace S := S.trans s
    have b4 : Bad G17 m4 := ⟨⟨M.rs, M.os, ri, M.outs⟩, ⟨r, q4, ou, qi, ⟨top, hM.rs, eq4, hM.ou, lqi, fun i q w a b => hM.row i q w (by rw [eqs]; exact left_at a) (by rw [eru]; exact left_at b)⟩⟩, (fun g => by have h1 : ri.length = M.rs.length := g.rl; omega), by first | exact osm | (show (0 : Int).natAbs < _; decide) | (show (5 : Int).natAbs < _; decide), by first | exact nsm | (show (M.outs.dropLast ++ _).length < _; exact nsm2 _ rfl)⟩
    clear s top
    clear eq4
    refine ⟨(by show 3 ≤ sizeLine; decide), ?_⟩
    intro l2 hl2
    have sX := fresh_same (o := .lst [.ref m2, .ref m3, .ref m4]) hl2
    revert sX
    generalize upd G17 l2 (.lst [.ref m2, .ref m3, .ref m4]) = G18
    rintro ⟨s, el2⟩
    clear hl2
    replace hM := hM.same s
    replace hwl := s _ _ hwl
    replace ew1 := s _ _ ew1
    replace eone := s _ _ eone
    replace el1 := s _ _ el1
    replace b0 := b0.same s
    replace b1 := b1.same s
    replace b2 := b2.same s
    replace b3 := b3.same s
    replace b4 := b4.same s
    replace S := S.trans s
    clear s
    refine catL_any el1 el2 (by show _ ≤ sizeLine; simp only [List.length_append, List.length_cons, List.length_nil]; decide) fun G19 l3 s el3 => ?_
    replace hM := hM.same s
    replace hwl := s _ _ hwl
    replace ew1 := s _ _ ew1
    replace eone := s _ _ eone
    replace el1 := s _ _ el1
    replace el2 := s _ _ el2
    replace b0 := b0.same s
    replace b1 := b1.same s
    replace b2 := b2.same s
    replace b3 := b3.same s
    replace b4 := b4.same s
    replace S := S.trans s
    clear s
    clear el1
    clear el2
    refine ⟨_, rfl, ?_⟩
    refine ⟨_, rfl, _, rfl, ?_⟩
    refine ⟨_, rfl, _, rfl, ?_⟩
    refine ⟨(by show 4 ≤ sizeLine; decide), ?_⟩
    intro m5 hm5
    have sX := fresh_same (o := .tup [.ref r, .int M.os, .ref one, .ref ou]) hm5
    revert sX
    generalize upd G19 m5 (.tup [.ref r, .int M.os, .ref one, .ref ou]) = G20
    rintro ⟨s, top⟩
    clear hm5
    replace hM := hM.same s
    replace hwl := s _ _ hwl
    replace ew1 := s _ _ ew1
    replace eone := s _ _ eone
    replace el3 := s _ _ el3
    replace b0 := b0.same s
    replace b1 := b1.same s
    replace b2 := b2.same s
    replace b3 := b3.same s
    replace b4 := b4.same s
    replace S := S.trans s
    have b5 : Bad G20 m5 := ⟨⟨M.rs, M.os, ri ++ [wl ++ [0]], M.outs⟩, ⟨r, one, ou, qi ++ [w1], ⟨top, hM.rs, (by rw [List.map_append]; exact eone), hM.ou, (by rw [List.length_append, List.length_append, lqi]; rfl), rows_snoc (fun i q w a b => hM.row i q w (by rw [eqs]; exact left_at a) (by rw [eru]; exact left_at b)) lqi (by rw [List.map_append]; exact ew1)⟩⟩, (fun g => by have h1 := g.sz ri.length _ _ (List.getElem?_eq_getElem ril) (mid_at rfl); have h2 : (wl ++ [0]).length = M.outs.length ^ M.rs[ri.length].toNat := h1; rw [List.length_append] at h2; have h3 : ([0] : List Int).length = 1 := rfl; omega), by first | exact osm | (show (0 : Int).natAbs < _; decide) | (show (5 : Int).natAbs < _; decide), by first | exact nsm | (show (M.outs.dropLast ++ _).length < _; exact nsm2 _ rfl)⟩
    clear s top
    clear eone
    clear ew1
    refine ⟨_, rfl, _, rfl, ?_⟩
    refine ⟨_, rfl, _, rfl, _, rfl, ?_⟩
    refine slA_any hM.ru fun G21 q6 s eq6 => ?_
    replace hM := hM.same s
    replace hwl := s _ _ hwl
    replace el3 := s _ _ el3
    replace b0 := b0.same s
    replace b1 := b1.same s
    replace b2 := b2.same s
    replace b3 := b3.same s
    replace b4 := b4.same s
    replace b5 := b5.same s
    replace S := S.trans s
    clear s
    rw [cutRef eqs] at eq6
    refine ⟨_, rfl, _, rfl, .inr (.inl ⟨ru, _, -1, _, rfl, rfl, SqT.of hM.ru, atLast eqs, ?_⟩)⟩
    refine ⟨_, rfl, _, rfl, ?_⟩
    refine slA_any hwl fun G22 w6 s ew6 => ?_
    replace hM := hM.same s
    replace hwl := s _ _ hwl
    replace el3 := s _ _ el3
    replace eq6 := s _ _ eq6
    replace b0 := b0.same s
    replace b1 := b1.same s
    replace b2 := b2.same s
    replace b3 := b3.same s
    replace b4 := b4.same s
    replace b5 := b5.same s
    replace S := S.trans s
    clear s
    rw [cutInit wl1] at ew6
    refine ⟨(by show 1 ≤ sizeLine; decide), ?_⟩
    intro u6 hu6
    have sX := fresh_same (o := .tup [.ref w6]) hu6
    revert sX
    generalize upd G22 u6 (.tup [.ref w6]) = G23
    rintro ⟨s, eu6⟩
    clear hu6
    replace hM := hM.same s
    replace hwl := s _ _ hwl
    replace el3 := s _ _ el3
    replace eq6 := s _ _ eq6
    replace ew6 := s _ _ ew6
    replace b0 := b0.same s
    replace b1 := b1.same s
    replace b2 := b2.same s
    replace b3 := b3.same s
    replace b4 := b4.same s
    replace b5 := b5.same s
    replace S := S.trans s
    clear s
    refine catA_any eq6 eu6 (by simp only [List.length_append, List.length_map, List.length_cons, List.length_nil, List.length_drop, List.length_dropLast, sizeLine_eq]; omega) fun G24 r6 s er6 => ?_
    replace hM := hM.same s
    replace hwl := s _ _ hwl
    replace el3 := s _ _ el3
    replace eq6 := s _ _ eq6
    replace ew6 := s _ _ ew6
    replace eu6 := s _ _ eu6
    replace b0 := b0.same s
    replace b1 := b1.same s
    replace b2 := b2.same s
    replace b3 := b3.same s
    replace b4 := b4.same s
    replace b5 := b5.same s
    replace S := S.trans s
    clear s
    refine ⟨_, rfl, ?_⟩
    refine ⟨(by show 4 ≤ sizeLine; decide), ?_⟩
    intro m6 hm6
    have sX := fresh_same (o := .tup [.ref r, .int M.os, .ref r6, .ref ou]) hm6
    revert sX
    generalize upd G24 m6 (.tup [.ref r, .int M.os, .ref r6, .ref ou]) = G25
    rintro ⟨s, top⟩
    clear hm6
    replace hM := hM.same s
    replace hwl := s _ _ hwl
    replace el3 := s _ _ el3
    replace eq6 := s _ _ eq6
    replace ew6 := s _ _ ew6
    replace eu6 := s _ _ eu6
    replace er6 := s _ _ er6
    replace b0 := b0.same s
    replace b1 := b1.same s
    replace b2 := b2.same s
    replace b3 := b3.same s
    replace b4 := b4.same s
    replace b5 := b5.same s
    replace S := S.trans s
    have b6 : Bad G25 m6 := ⟨⟨M.rs, M.os, ri ++ [wl.dropLast], M.outs⟩, ⟨r, r6, ou, qi ++ [w6], ⟨top, hM.rs, (by rw [List.map_append]; exact er6), hM.ou, (by rw [List.length_append, List.length_append, lqi]; rfl), rows_snoc (fun i q w a b => hM.row i q w (by rw [eqs]; exact left_at a) (by rw [eru]; exact left_at b)) lqi ew6⟩⟩, (fun g => by have h1 := g.sz ri.length _ _ (List.getElem?_eq_getElem ril) (mid_at rfl); have h2 : wl.dropLast.length = M.outs.length ^ M.rs[ri.length].toNat := h1; rw [List.length_dropLast] at h2; omega), by first | exact osm | (show (0 : Int).natAbs < _; decide) | (show (5 : Int).natAbs < _; decide), by first | exact nsm | (show (M.outs.dropLast ++ _).length < _; exact nsm2 _ rfl)⟩
    clear s top
    clear eq6
    clear eu6
    clear er6
    clear ew6
    refine ⟨(by show 2 ≤ sizeLine; decide), ?_⟩
    intro l4 hl4
    have sX := fresh_same (o := .lst [.ref m5, .ref m6]) hl4
    revert sX
    generalize upd G25 l4 (.lst [.ref m5, .ref m6]) = G26
    rintro ⟨s, el4⟩
    clear hl4
    replace hM := hM.same s
    replace hwl := s _ _ hwl
    replace el3 := s _ _ el3
    replace b0 := b0.same s
    replace b1 := b1.same s
    replace b2 := b2.same s
    replace b3 := b3.same s
    replace b4 := b4.same s
    replace b5 := b5.same s
    replace b6 := b6.same s
    replace S := S.trans s
    clear s
    refine catL_any el3 el4 (by show _ ≤ sizeLine; simp only [List.length_append, List.length_cons, List.length_nil]; decide) fun G27 l5 s el5 => ?_
    replace hM := hM.same s
    replace hwl := s _ _ hwl
    replace el3 := s _ _ el3
    replace el4 := s _ _ el4
    replace b0 := b0.same s
    replace b1 := b1.same s
    replace b2 := b2.same s
    replace b3 := b3.same s
    replace b4 := b4.same s
    replace b5 := b5.same s
    replace b6 := b6.same s
    replace S := S.trans s
    clear s
    clear el3
    clear el4
    refine ⟨_, rfl, ?_⟩
    refine ⟨_, rfl, _, rfl, ?_⟩
    refine ⟨_, rfl, _, rfl, _, rfl, ?_⟩
    refine slA_any hM.ru fun G28 q7 s eq7 => ?_
    replace hM := hM.same s
    replace hwl := s _ _ hwl
    replace el5 := s _ _ el5
    replace b0 := b0.same s
    replace b1 := b1.same s
    replace b2 := b2.same s
    replace b3 := b3.same s
    replace b4 := b4.same s
    replace b5 := b5.same s
    replace b6 := b6.same s
    replace S := S.trans s
    clear s
    rw [cutRef eqs] at eq7
    refine ⟨_, rfl, ou, _, rfl, .inr (SqT.of hM.ou), ?_⟩
    rw [show (M.outs.map V.int).length = M.outs.length from List.length_map ..]
    refine ⟨(by show 1 ≤ sizeLine; decide), ?_⟩
    intro n7 hn7
    have sX := fresh_same (o := .tup [.int (M.outs.length : Int)]) hn7
    revert sX
    generalize upd G28 n7 (.tup [.int (M.outs.length : Int)]) = G29
    rintro ⟨s, en7⟩
    clear hn7
    replace hM := hM.same s
    replace hwl := s _ _ hwl
    replace el5 := s _ _ el5
    replace eq7 := s _ _ eq7
    replace b0 := b0.same s
    replace b1 := b1.same s
    replace b2 := b2.same s
    replace b3 := b3.same s
    replace b4 := b4.same s
    replace b5 := b5.same s
    replace b6 := b6.same s
    replace S := S.trans s
    clear s
    refine ⟨_, rfl, _, rfl, .inr (.inl ⟨ru, _, -1, _, rfl, rfl, SqT.of hM.ru, atLast eqs, ?_⟩)⟩
    refine ⟨_, rfl, ?_⟩
    refine noPart ?_
    refine slA_any hwl fun G30 w7 s ew7 => ?_
    replace hM := hM.same s
    replace hwl := s _ _ hwl
    replace el5 := s _ _ el5
    replace eq7 := s _ _ eq7
    replace en7 := s _ _ en7
    replace b0 := b0.same s
    replace b1 := b1.same s
    replace b2 := b2.same s
    replace b3 := b3.same s
    replace b4 := b4.same s
    replace b5 := b5.same s
    replace b6 := b6.same s
    replace S := S.trans s
    clear s
    rw [cutTail wl1] at ew7
    refine catA_any en7 ew7 (by simp only [List.length_append, List.length_map, List.length_cons, List.length_nil, List.length_drop, List.length_dropLast, sizeLine_eq]; omega) fun G31 x7 s ex7 => ?_
    replace hM := hM.same s
    replace hwl := s _ _ hwl
    replace el5 := s _ _ el5
    replace eq7 := s _ _ eq7
    replace en7 := s _ _ en7
    replace ew7 := s _ _ ew7
    replace b0 := b0.same s
    replace b1 := b1.same s
    replace b2 := b2.same s
    replace b3 := b3.same s
    replace b4 := b4.same s
    replace b5 := b5.same s
    replace b6 := b6.same s
    replace S := S.trans s
    clear s
    refine ⟨(by show 1 ≤ sizeLine; decide), ?_⟩
    intro u7 hu7
    have sX := fresh_same (o := .tup [.ref x7]) hu7
    revert sX
    generalize upd G31 u7 (.tup [.ref x7]) = G32
    rintro ⟨s, eu7⟩
    clear hu7
    replace hM := hM.same s
    replace hwl := s _ _ hwl
    replace el5 := s _ _ el5
    replace eq7 := s _ _ eq7
    replace en7 := s _ _ en7
    replace ew7 := s _ _ ew7
    replace ex7 := s _ _ ex7
    replace b0 := b0.same s
    replace b1 := b1.same s
    replace b2 := b2.same s
    replace b3 := b3.same s
    replace b4 := b4.same s
    replace b5 := b5.same s
    replace b6 := b6.same s
    replace S := S.trans s
    clear s
    refine catA_any eq7 eu7 (by simp only [List.length_append, List.length_map, List.length_cons, List.length_nil, List.length_drop, List.length_dropLast, sizeLine_eq]; omega) fun G33 r7 s er7 => ?_
    replace hM := hM.same s
    replace hwl := s _ _ hwl
    replace el5 := s _ _ el5
    replace eq7 := s _ _ eq7
    replace en7 := s _ _ en7
    replace ew7 := s _ _ ew7
    replace ex7 := s _ _ ex7
    replace eu7 := s _ _ eu7
    replace b0 := b0.same s
    replace b1 := b1.same s
    replace b2 := b2.same s
    replace b3 := b3.same s
    replace b4 := b4.same s
    replace b5 := b5.same s
    replace b6 := b6.same s
    replace S := S.trans s
    clear s
    refine ⟨_, rfl, ?_⟩
    refine ⟨(by show 4 ≤ sizeLine; decide), ?_⟩
    intro m7 hm7
    have sX := fresh_same (o := .tup [.ref r, .int M.os, .ref r7, .ref ou]) hm7
    revert sX
    generalize upd G33 m7 (.tup [.ref r, .int M.os, .ref r7, .ref ou]) = G34
    rintro ⟨s, top⟩
    clear hm7
    replace hM := hM.same s
    replace hwl := s _ _ hwl
    replace el5 := s _ _ el5
    replace eq7 := s _ _ eq7
    replace en7 := s _ _ en7
    replace ew7 := s _ _ ew7
    replace ex7 := s _ _ ex7
    replace eu7 := s _ _ eu7
    replace er7 := s _ _ er7
    replace b0 := b0.same s
    replace b1 := b1.same s
    replace b2 := b2.same s
    replace b3 := b3.same s
    replace b4 := b4.same s
    replace b5 := b5.same s
    replace b6 := b6.same s
    replace S := S.trans s
    have b7 : Bad G34 m7 := ⟨⟨M.rs, M.os, ri ++ [(M.outs.length : Int) :: wl.drop 1], M.outs⟩, ⟨r, r7, ou, qi ++ [x7], ⟨top, hM.rs, (by rw [List.map_append]; exact er7), hM.ou, (by rw [List.length_append, List.length_append, lqi]; rfl), rows_snoc (fun i q w a b => hM.row i q w (by rw [eqs]; exact left_at a) (by rw [eru]; exact left_at b)) lqi ex7⟩⟩, (fun g => by have h1 := (g.rb _ (List.mem_append.mpr (.inr (List.mem_singleton.mpr rfl))) _ List.mem_cons_self).2; have h2 : (M.outs.length : Int) < (M.outs.length : Int) := h1; omega), by first | exact osm | (show (0 : Int).natAbs < _; decide) | (show (5 : Int).natAbs < _; decide), by first | exact nsm | (show (M.outs.dropLast ++ _).length < _; exact nsm2 _ rfl)⟩
    clear s top
    clear eq7
    clear en7
    clear ew7
    clear ex7
    clear eu7
    clear er7
    refine ⟨(by show 1 ≤ sizeLine; decide), ?_⟩
    intro l6 hl6
    have sX := fresh_same (o := .lst [.ref m7]) hl6
    revert sX
    generalize upd G34 l6 (.lst [.ref m7]) = G35
    rintro ⟨s, el6⟩
    clear hl6
    replace hM := hM.same s
    replace hwl := s _ _ hwl
    replace el5 := s _ _ el5
    replace b0 := b0.same s
    replace b1 := b1.same s
    replace b2 := b2.same s
    replace b3 := b3.same s
    replace b4 := b4.same s
    replace b5 := b5.same s
    replace b6 := b6.same s
    replace b7 := b7.same s
    replace S := S.trans s
    clear s
    refine catL_any el5 el6 (by show _ ≤ sizeLine; simp only [List.length_append, List.length_cons, List.length_nil]; decide) fun G36 l7 s el7 => ?_
    replace hM := hM.same s
    replace hwl := s _ _ hwl
    replace el5 := s _ _ el5
    replace el6 := s _ _ el6
    replace b0 := b0.same s
    replace b1 := b1.same s
    replace b2 := b2.same s
    replace b3 := b3.same s
    replace b4 := b4.same s
    replace b5 := b5.same s
    replace b6 := b6.same s
    replace b7 := b7.same s
    replace S := S.trans s
    clear s
    clear el5
    clear el6
    refine ⟨_, rfl, ?_⟩
    refine ⟨_, rfl, _, rfl, _, rfl, ?_⟩
    refine ⟨_, rfl, _, rfl, _, rfl, ?_⟩
    refine slA_any hM.ou fun G37 o8 s eo8 => ?_
    replace hM := hM.same s
    replace hwl := s _ _ hwl
    replace el7 := s _ _ el7
    replace b0 := b0.same s
    replace b1 := b1.same s
    replace b2 := b2.same s
    replace b3 := b3.same s
    replace b4 := b4.same s
    replace b5 := b5.same s
    replace b6 := b6.same s
    replace b7 := b7.same s
    replace S := S.trans s
    clear s
    rw [cutInit ou1] at eo8
    refine ⟨_, rfl, ?_⟩
    refine ⟨(by show 1 ≤ sizeLine; decide), ?_⟩
    intro t8 ht8
    have sX := fresh_same (o := .tup [.int M.os]) ht8
    revert sX
    generalize upd G37 t8 (.tup [.int M.os]) = G38
    rintro ⟨s, et8⟩
    clear ht8
    replace hM := hM.same s
    replace hwl := s _ _ hwl
    replace el7 := s _ _ el7
    replace eo8 := s _ _ eo8
    replace b0 := b0.same s
    replace b1 := b1.same s
    replace b2 := b2.same s
    replace b3 := b3.same s
    replace b4 := b4.same s
    replace b5 := b5.same s
    replace b6 := b6.same s
    replace b7 := b7.same s
    replace S := S.trans s
    clear s
    refine catA_any eo8 et8 (by simp only [List.length_append, List.length_map, List.length_cons, List.length_nil, List.length_drop, List.length_dropLast, sizeLine_eq]; omega) fun G39 y8 s ey8 => ?_
    replace hM := hM.same s
    replace hwl := s _ _ hwl
    replace el7 := s _ _ el7
    replace eo8 := s _ _ eo8
    replace et8 := s _ _ et8
    replace b0 := b0.same s
    replace b1 := b1.same s
    replace b2 := b2.same s
    replace b3 := b3.same s
    replace b4 := b4.same s
    replace b5 := b5.same s
    replace b6 := b6.same s
    replace b7 := b7.same s
    replace S := S.trans s
    clear s
    refine ⟨(by show 4 ≤ sizeLine; decide), ?_⟩
    intro m8 hm8
    have sX := fresh_same (o := .tup [.ref r, .int M.os, .ref ru, .ref y8]) hm8
    revert sX
    generalize upd G39 m8 (.tup [.ref r, .int M.os, .ref ru, .ref y8]) = G40
    rintro ⟨s, top⟩
    clear hm8
    replace hM := hM.same s
    replace hwl := s _ _ hwl
    replace el7 := s _ _ el7
    replace eo8 := s _ _ eo8
    replace et8 := s _ _ et8
    replace ey8 := s _ _ ey8
    replace b0 := b0.same s
    replace b1 := b1.same s
    replace b2 := b2.same s
    replace b3 := b3.same s
    replace b4 := b4.same s
    replace b5 := b5.same s
    replace b6 := b6.same s
    replace b7 := b7.same s
    replace S := S.trans s
    have b8 : Bad G40 m8 := ⟨⟨M.rs, M.os, M.rules, M.outs.dropLast ++ [M.os]⟩, ⟨r, ru, y8, qs, ⟨top, hM.rs, hM.ru, (by rw [List.map_append]; exact ey8), hM.len, fun i q w a b => hM.row i q w a b⟩⟩, (fun g => by have h1 := (g.ob M.os (List.mem_append.mpr (.inr (List.mem_singleton.mpr rfl)))).2; have h2 : M.os < M.os := h1; omega), by first | exact osm | (show (0 : Int).natAbs < _; decide) | (show (5 : Int).natAbs < _; decide), by first | exact nsm | (show (M.outs.dropLast ++ _).length < _; exact nsm2 _ rfl)⟩
    clear s top
    clear eo8
    clear et8
    clear ey8
    refine ⟨_, rfl, _, rfl, _, rfl, ?_⟩
    refine ⟨_, rfl, _, rfl, _, rfl, ?_⟩
    refine slA_any hM.ou fun G41 o9 s eo9 => ?_
    replace hM := hM.same s
    replace hwl := s _ _ hwl
    replace el7 := s _ _ el7
    replace b0 := b0.same s
    replace b1 := b1.same s
    replace b2 := b2.same s
    replace b3 := b3.same s
    replace b4 := b4.same s
    replace b5 := b5.same s
    replace b6 := b6.same s
    replace b7 := b7.same s
    replace b8 := b8.same s
    replace S := S.trans s
    clear s
    rw [cutInit ou1] at eo9
    refine ⟨_, rfl, ?_⟩
    refine ⟨(by show 1 ≤ sizeLine; decide), ?_⟩
    intro t9 ht9
    have sX := fresh_same (o := .tup [.int (-1)]) ht9
    revert sX
    generalize upd G41 t9 (.tup [.int (-1)]) = G42
    rintro ⟨s, et9⟩
    clear ht9
    replace hM := hM.same s
    replace hwl := s _ _ hwl
    replace el7 := s _ _ el7
    replace eo9 := s _ _ eo9
    replace b0 := b0.same s
    replace b1 := b1.same s
    replace b2 := b2.same s
    replace b3 := b3.same s
    replace b4 := b4.same s
    replace b5 := b5.same s
    replace b6 := b6.same s
    replace b7 := b7.same s
    replace b8 := b8.same s
    replace S := S.trans s
    clear s
    refine catA_any eo9 et9 (by simp only [List.length_append, List.length_map, List.length_cons, List.length_nil, List.length_drop, List.length_dropLast, sizeLine_eq]; omega) fun G43 y9 s ey9 => ?_
    replace hM := hM.same s
    replace hwl := s _ _ hwl
    replace el7 := s _ _ el7
    replace eo9 := s _ _ eo9
    replace et9 := s _ _ et9
    replace b0 := b0.same s
    replace b1 := b1.same s
    replace b2 := b2.same s
    replace b3 := b3.same s
    replace b4 := b4.same s
    replace b5 := b5.same s
    replace b6 := b6.same s
    replace b7 := b7.same s
    replace b8 := b8.same s
    replace S := S.trans s
    clear s
    refine ⟨(by show 4 ≤ sizeLine; decide), ?_⟩
    intro m9 hm9
    have sX := fresh_same (o := .tup [.ref r, .int M.os, .ref ru, .ref y9]) hm9
    revert sX
    generalize upd G43 m9 (.tup [.ref r, .int M.os, .ref ru, .ref y9]) = G44
    rintro ⟨s, top⟩
    clear hm9
    replace hM := hM.same s
    replace hwl := s _ _ hwl
    replace el7 := s _ _ el7
    replace eo9 := s _ _ eo9
    replace et9 := s _ _ et9
    replace ey9 := s _ _ ey9
    replace b0 := b0.same s
    replace b1 := b1.same s
    replace b2 := b2.same s
    replace b3 := b3.same s
    replace b4 := b4.same s
    replace b5 := b5.same s
    replace b6 := b6.same s
    replace b7 := b7.same s
    replace b8 := b8.same s
    replace S := S.trans s
    have b9 : Bad G44 m9 := ⟨⟨M.rs, M.os, M.rules, M.outs.dropLast ++ [-1]⟩, ⟨r, ru, y9, qs, ⟨top, hM.rs, hM.ru, (by rw [List.map_append]; exact ey9), hM.len, fun i q w a b => hM.row i q w a b⟩⟩, (fun g => by have h1 := (g.ob (-1) (List.mem_append.mpr (.inr (List.mem_singleton.mpr rfl)))).1; omega), by first | exact osm | (show (0 : Int).natAbs < _; decide) | (show (5 : Int).natAbs < _; decide), by first | exact nsm | (show (M.outs.dropLast ++ _).length < _; exact nsm2 _ rfl)⟩
    clear s top
    clear eo9
    clear et9
    clear ey9
    refine ⟨(by show 2 ≤ sizeLine; decide), ?_⟩
    intro l8 hl8
    have sX := fresh_same (o := .lst [.ref m8, .ref m9]) hl8
    revert sX
    generalize upd G44 l8 (.lst [.ref m8, .ref m9]) = G45
    rintro ⟨s, el8⟩
    clear hl8
    replace hM := hM.same s
    replace hwl := s _ _ hwl
    replace el7 := s _ _ el7
    replace b0 := b0.same s
    replace b1 := b1.same s
    replace b2 := b2.same s
    replace b3 := b3.same s
    replace b4 := b4.same s
    replace b5 := b5.same s
    replace b6 := b6.same s
    replace b7 := b7.same s
    replace b8 := b8.same s
    replace b9 := b9.same s
    replace S := S.trans s
    clear s
    refine catL_any el7 el8 (by show _ ≤ sizeLine; simp only [List.length_append, List.length_cons, List.length_nil]; decide) fun G46 l9 s el9 => ?_
    replace hM := hM.same s
    replace hwl := s _ _ hwl
    replace el7 := s _ _ el7
    replace el8 := s _ _ el8
    replace b0 := b0.same s
    replace b1 := b1.same s
    replace b2 := b2.same s
    replace b3 := b3.same s
    replace b4 := b4.same s
    replace b5 := b5.same s
    replace b6 := b6.same s
    replace b7 := b7.same s
    replace b8 := b8.same s
    replace b9 := b9.same s
    replace S := S.trans s
    clear s
    clear el7
    clear el8
    have k0 := Int.emod_nonneg x (show (10 : Int) ≠ 0 by decide)
    have k1 := Int.emod_lt_of_pos x (show (0 : Int) < 10 by decide)
    dsimp only
    generalize x % 10 = k at *
    have pick : ∃ q, atI ([.ref m0, .ref m1] ++ [.ref m2, .ref m3, .ref m4] ++ [.ref m5, .ref m6] ++ [.ref m7] ++ [.ref m8, .ref m9] : List V) k = some (.ref q) ∧ Bad G46 q := by
      have hk : k = 0 ∨ k = 1 ∨ k = 2 ∨ k = 3 ∨ k = 4 ∨ k = 5 ∨ k = 6 ∨ k = 7 ∨ k = 8 ∨ k = 9 := by omega
      rcases hk with rfl | rfl | rfl | rfl | rfl | rfl | rfl | rfl | rfl | rfl
      · exact ⟨m0, rfl, b0⟩
      · exact ⟨m1, rfl, b1⟩
      · exact ⟨m2, rfl, b2⟩
      · exact ⟨m3, rfl, b3⟩
      · exact ⟨m4, rfl, b4⟩
      · exact ⟨m5, rfl, b5⟩
      · exact ⟨m6, rfl, b6⟩
      · exact ⟨m7, rfl, b7⟩
      · exact ⟨m8, rfl, b8⟩
      · exact ⟨m9, rfl, b9⟩
    obtain ⟨q, eq_, bq⟩ := pick
    exact ⟨_, rfl, _, rfl, .inl ⟨l9, _, _, _, rfl, rfl, SqL.of el9, eq_, fin _ _ S bq⟩⟩
end
end K61

set_option Elab.async false
set_option linter.all false
set_option maxRecDepth 100000
set_option maxHeartbeats 4000000
namespace K61
open PySem PySem.Spec PyProof.Rows L2 L2H Mz
def spLawRefused (K : PySem.W.Frag) (Pt : Addr) : Sp := fun vs H Q _ => ∃ (m : Addr), vs = [.ref m] ∧ Bad H m ∧ GxR.TabG H Pt ∧ ∀ H', Kp Pt H H' → Q (.bl true) H'
def spSeven : Sp := fun vs H Q _ => vs = [] ∧ ∀ H' q, Same H H' → Bad H' q → Q (.ref q) H'
section
variable {P : Program} {w : World} {K : PySem.W.Frag} {mg : Str → Option Value} {base : Heap} {A : Ads} {c Pt : Addr}
theorem ok_refused (T : Txt K mg A) (TB : GxR.TabB base mg c Pt) (hc : A.d_are_below.code = .ref c) : FnOk P w K mg base CX0 4 A.a_law_refused A.d_law_refused ["machine"] (spLawRefused K Pt) := by
  have G_check_tree_machine : FnOk P w K mg base (L2N.CX P w) 3 A.a_check_tree_machine A.d_check_tree_machine ["machine"] (spCheckM K A Pt) := ok_checkm T TB hc
  refine T.F_law_refused.ok sc_law_refused (fun vs H Q E h => ?_) (fun cdv Ar outer s H vs Q E hr h => ?_)
  · obtain ⟨_, rfl, _⟩ := h
    rfl
  · obtain ⟨m, rfl, ⟨M, hM, ng, b1, b2⟩, hT, fin⟩ := h
    have hr_check_tree_machine : Room 3 _ := hr
    refine ⟨_, (pss_cons (L2N.ps_try_as (i := 1) rfl rfl sc_law_refused.nd rfl rfl ⟨rfl, by decide, Or.inl T.g_MaieuticError⟩ takesN (fun W pn xe tk po => (pss_one (ps_expr (pe_callS G_check_tree_machine hr_check_tree_machine (by rfl) T.g_check_tree_machine T.F_check_tree_machine.kp T.b_check_tree_machine (fun σ => L2N.passAt tk σ) (pa_cons (pv 0) pa_nil))))) (fun a oe cls d pn hz hf => (pss_one (ps_ret (pe_and (pe_callB (call_isX hz.zc hf) (by rfl) T.n_isinstance (by decide +kernel) (pa_cons (pv 1) (pa_cons (C8.pe_gc (v := .ref A.a_NotAllowed) (by rfl) ⟨_, T.g_NotAllowed, rfl⟩) pa_nil))) (pe_and (pe_callB (call_isXV hz.zc hf) (by rfl) T.n_isinstance (by decide +kernel) (pa_cons (pv 1) (pa_cons (pe_bltn (v := .ty "ValueError") (u := .type "ValueError") (by rfl) T.n_ValueError (by decide +kernel) rfl) pa_nil))) (pe_one (pe_not (pe_callB (call_isX hz.zc hf) (by rfl) T.n_isinstance (by decide +kernel) (pa_cons (pv 1) (pa_cons (C8.pe_gc (v := .ref A.a_Missing) (by rfl) ⟨_, T.g_Missing, rfl⟩) pa_nil)))))))))))
      (pss_one (ps_ret pe_bl))), ?_⟩
    refine ⟨_, rfl, m, M, rfl, hM, b1, b2, hT, fun H1 k1 => ⟨fun g => absurd g ng, fun _ => ?_⟩⟩
    refine ⟨true, exm_own T.E_MaieuticError T.ty_MaieuticError T.su_NotAllowed_MaieuticError, fun _ a ha => ?_, fun z => Bool.noConfusion z⟩
    refine ⟨_, rfl, A.a_NotAllowed, A.a_NotAllowed, true, rfl, rfl, T.E_NotAllowed, rfl, kit_own T.su_NotAllowed_NotAllowed T.E_NotAllowed T.ty_NotAllowed T.su_NotAllowed_NotAllowed, _, rfl, iteT ?_⟩
    refine ⟨_, rfl, A.a_NotAllowed, _, _, true, rfl, rfl, T.E_NotAllowed, rfl, .ty _, kit_ty T.sv_NotAllowed, _, rfl, iteT ?_⟩
    refine ⟨_, rfl, A.a_NotAllowed, A.a_Missing, false, rfl, rfl, T.E_NotAllowed, rfl, kit_own T.su_NotAllowed_NotAllowed T.E_Missing T.ty_Missing T.su_NotAllowed_Missing, ?_⟩
    exact ⟨_, rfl, fin H1 k1⟩
theorem ok_seven (T : Txt K mg A) : FnOk P w K mg base CX0 1 A.a_law_seven A.d_law_seven [] spSeven := by
  refine T.F_law_seven.ok sc_law_seven (fun vs H Q E h => ?_) (fun cdv Ar outer s H vs Q E hr h => ?_)
  · obtain ⟨rfl, _⟩ := h
    rfl
  · obtain ⟨rfl, fin⟩ := h
    refine ⟨_, (pss_one (ps_ret (pe_tup (pa_cons (pe_tup (pa_cons pe_int (pa_cons pe_int pa_nil))) (pa_cons pe_int (pa_cons (pe_tup (pa_cons (pe_tup (pa_cons pe_int pa_nil)) (pa_cons (pe_tup (pa_cons pe_int (pa_cons pe_int (pa_cons pe_int (pa_cons pe_int (pa_cons pe_int (pa_cons pe_int (pa_cons pe_int pa_nil)))))))) pa_nil))) (pa_cons (pe_tup (pa_cons pe_int (pa_cons pe_int (pa_cons pe_int (pa_cons pe_int (pa_cons pe_int (pa_cons pe_int (pa_cons pe_int pa_nil)))))))) pa_nil))))))), ?_⟩
    have S : Same H H := Same.refl H
    refine ⟨(by show 2 ≤ sizeLine; decide), ?_⟩
    intro r hr
    have sX := fresh_same (o := .tup [.int 0, .int 1]) hr
    revert sX
    generalize upd H r (.tup [.int 0, .int 1]) = G1
    rintro ⟨s, er⟩
    clear hr
    replace S := S.trans s
    clear s
    refine ⟨(by show 1 ≤ sizeLine; decide), ?_⟩
    intro q1 hq1
    have sX := fresh_same (o := .tup [.int 0]) hq1
    revert sX
    generalize upd G1 q1 (.tup [.int 0]) = G2
    rintro ⟨s, e1⟩
    clear hq1
    replace er := s _ _ er
    replace S := S.trans s
    clear s
    refine ⟨(by show 7 ≤ sizeLine; decide), ?_⟩
    intro q2 hq2
    have sX := fresh_same (o := .tup [.int 1, .int 2, .int 3, .int 4, .int 5, .int 6, .int 0]) hq2
    revert sX
    generalize upd G2 q2 (.tup [.int 1, .int 2, .int 3, .int 4, .int 5, .int 6, .int 0]) = G3
    rintro ⟨s, e2⟩
    clear hq2
    replace er := s _ _ er
    replace e1 := s _ _ e1
    replace S := S.trans s
    clear s
    refine ⟨(by show 2 ≤ sizeLine; decide), ?_⟩
    intro ru hru
    have sX := fresh_same (o := .tup [.ref q1, .ref q2]) hru
    revert sX
    generalize upd G3 ru (.tup [.ref q1, .ref q2]) = G4
    rintro ⟨s, eru⟩
    clear hru
    replace er := s _ _ er
    replace e1 := s _ _ e1
    replace e2 := s _ _ e2
    replace S := S.trans s
    clear s
    refine ⟨(by show 7 ≤ sizeLine; decide), ?_⟩
    intro ou hou
    have sX := fresh_same (o := .tup [.int 0, .int 1, .int 0, .int 1, .int 0, .int 1, .int 0]) hou
    revert sX
    generalize upd G4 ou (.tup [.int 0, .int 1, .int 0, .int 1, .int 0, .int 1, .int 0]) = G5
    rintro ⟨s, eou⟩
    clear hou
    replace er := s _ _ er
    replace e1 := s _ _ e1
    replace e2 := s _ _ e2
    replace eru := s _ _ eru
    replace S := S.trans s
    clear s
    refine ⟨(by show 4 ≤ sizeLine; decide), ?_⟩
    intro m hm
    have sX := fresh_same (o := .tup [.ref r, .int 2, .ref ru, .ref ou]) hm
    revert sX
    generalize upd G5 m (.tup [.ref r, .int 2, .ref ru, .ref ou]) = G6
    rintro ⟨s, em⟩
    clear hm
    replace er := s _ _ er
    replace e1 := s _ _ e1
    replace e2 := s _ _ e2
    replace eru := s _ _ eru
    replace eou := s _ _ eou
    replace S := S.trans s
    clear s
    refine fin G6 m S ⟨⟨[0, 1], 2, [[0], [1, 2, 3, 4, 5, 6, 0]], [0, 1, 0, 1, 0, 1, 0]⟩, ⟨r, ru, ou, [q1, q2], em, .inl er, eru, eou, rfl, fun i q w a b => ?_⟩, fun g => absurd g.n6 (by show ¬ 7 ≤ 6; decide), by show (2 : Int).natAbs < _; decide, by show 7 < _; decide⟩
    match i, a, b with
    | 0, a, b =>
      cases a
      cases b
      exact e1
    | 1, a, b =>
      cases a
      cases b
      exact e2
    | i + 2, a, b => simp at a
end
end K61

set_option Elab.async false
set_option linter.all false
set_option maxRecDepth 100000
set_option maxHeartbeats 4000000
namespace K61
open PySem PySem.Spec PyProof.Rows L2 L2H Mz
theorem repI (z : Int) : ∀ k : Nat, (List.replicate k [V.int z]).flatten = (List.replicate k z).map V.int
  | 0 => rfl
  | k + 1 => by
    rw [List.replicate_succ, List.replicate_succ, List.flatten_cons, repI z k]
    rfl
theorem idx_at {ns : List Int} {k : Int} (h : k ∈ ns) : ns[ns.idxOf k]? = some k ∧ ns.idxOf k < ns.length := by
  have l := List.idxOf_lt_length_of_mem h
  exact ⟨by rw [List.getElem?_eq_getElem l, List.getElem_idxOf l], l⟩
theorem chain_lack {rs : List Int} {i j : Int} (hi : rs.getD i.toNat 0 = 1) (hj : rs.getD j.toNat 0 = 0) : ∀ n : Nat, lackG rs (List.replicate n i ++ [j]) 1 = some 0
  | 0 => by
    show lackG rs [j] 1 = some 0
    rw [lackG, if_neg (by decide), lackG, hj]
    rfl
  | n + 1 => by
    rw [List.replicate_succ]
    show lackG rs (i :: (List.replicate n i ++ [j])) 1 = some 0
    rw [lackG, if_neg (by decide), hi]
    exact chain_lack hi hj n
def spLaw (K : PySem.W.Frag) (Pt : Addr) : Sp := fun vs H Q _ => ∃ (a : Addr) (ns : List Int), vs = [.ref a] ∧ SqL K H a (ns.map V.int) ∧ ns.length ≤ 63 ∧ GxR.TabG H Pt ∧ ∀ H', Q (.bl true) H'
section
variable {P : Program} {w : World} {K : PySem.W.Frag} {mg : Str → Option Value} {base : Heap} {A : Ads} {c Pt : Addr}
theorem ok_law (T : Txt K mg A) (TB : GxR.TabB base mg c Pt) (hc : A.d_are_below.code = .ref c) : FnOk P w K mg base CX0 6 A.a_law A.d_law ["script"] (spLaw K Pt) := by
  have G_law_numbers : FnOk P w K mg base CX0 1 A.a_law_numbers A.d_law_numbers ["script", "many"] (spNumbers K) := ok_numbers T
  have G_law_ranks : FnOk P w K mg base CX0 1 A.a_law_ranks A.d_law_ranks ["number"] spLawRanks := ok_lawranks T
  have G_law_tree_machine : FnOk P w K mg base CX0 1 A.a_law_tree_machine A.d_law_tree_machine ["numbers", "ranks", "outs", "states"] (spTreeMachine K) := ok_treemachine T
  have G_check_tree_machine : FnOk P w K mg base (L2N.CX P w) 3 A.a_check_tree_machine A.d_check_tree_machine ["machine"] (spCheckM K A Pt) := ok_checkm T TB hc
  have G_law_refused : FnOk P w K mg base CX0 4 A.a_law_refused A.d_law_refused ["machine"] (spLawRefused K Pt) := ok_refused T TB hc
  have G_law_bad : FnOk P w K mg base CX0 1 A.a_law_bad A.d_law_bad ["machine", "number"] spBad := ok_bad T
  have G_law_drawn_tree : FnOk P w K mg base CX0 1 A.a_law_drawn_tree A.d_law_drawn_tree ["ranks", "numbers", "most"] (spDrawn K) := ok_drawn T
  have G_state_of_tree : FnOk P w K mg base (L2N.CX P w) 4 A.a_state_of_tree A.d_state_of_tree ["machine", "tree"] (spTree K A Pt fun M ts => M.stateT ts) := ok_state T TB hc
  have G_output_of_tree : FnOk P w K mg base (L2N.CX P w) 5 A.a_output_of_tree A.d_output_of_tree ["machine", "tree"] (spTree K A Pt fun M ts => M.outs.getD (M.stateT ts).toNat 0) := ok_output T TB hc
  have G_law_state : FnOk P w K mg base CX0 2 A.a_law_state A.d_law_state ["machine", "tree"] (spState K) := ok_lawstate T
  have G_law_seven : FnOk P w K mg base CX0 1 A.a_law_seven A.d_law_seven [] spSeven := ok_seven T
  refine T.F_law.ok sc_law (fun vs H Q E h => ?_) (fun cdv Ar outer s H vs Q E hr h => ?_)
  · obtain ⟨_, _, rfl, _⟩ := h
    rfl
  · obtain ⟨a, ns, rfl, hS, l63, hT, fin⟩ := h
    have hr_law_numbers : Room 1 _ := hr.mono (by decide)
    have hr_law_ranks : Room 1 _ := hr.mono (by decide)
    have hr_law_tree_machine : Room 1 _ := hr.mono (by decide)
    have hr_check_tree_machine : Room 3 _ := hr.mono (by decide)
    have hr_law_refused : Room 4 _ := hr.mono (by decide)
    have hr_law_bad : Room 1 _ := hr.mono (by decide)
    have hr_law_drawn_tree : Room 1 _ := hr.mono (by decide)
    have hr_state_of_tree : Room 4 _ := hr.mono (by decide)
    have hr_output_of_tree : Room 5 _ := hr
    have hr_law_state : Room 2 _ := hr.mono (by decide)
    have hr_law_seven : Room 1 _ := hr.mono (by decide)
    refine ⟨_, (pss_cons (ps_set (i := 1) sc_law.nd rfl (Or.inl rfl) (pe_call G_law_numbers hr_law_numbers (by rfl) T.g_law_numbers T.F_law_numbers.kp T.b_law_numbers .nil pass0 (pa_cons (pv 0) (pa_cons pe_int pa_nil))))
      (pss_cons (ps_set (i := 2) sc_law.nd rfl (Or.inl rfl) (pe_call G_law_ranks hr_law_ranks (by rfl) T.g_law_ranks T.F_law_ranks.kp T.b_law_ranks .nil pass0 (pa_cons (pe_ix (r := rIx K) ix_seq (pv 1) pe_int (fun _ _ => rfl)) pa_nil)))
      (pss_cons (ps_set (i := 3) sc_law.nd rfl (Or.inl rfl) (pe_call G_law_tree_machine hr_law_tree_machine (by rfl) T.g_law_tree_machine T.F_law_tree_machine.kp T.b_law_tree_machine .nil pass0 (pa_cons (pe_slice sl_list (pv 1) (po_some pe_int) po_none) (pa_cons (pv 2) (pa_cons (pe_op op_add pe_int (pe_op op_mod (pe_ix (r := rIx K) ix_seq (pv 1) pe_int (fun _ _ => rfl)) pe_int)) (pa_cons (pe_op op_add pe_int (pe_op op_mod (pe_ix (r := rIx K) ix_seq (pv 1) pe_int (fun _ _ => rfl)) pe_int)) pa_nil))))))
      (pss_cons (ps_if (PW.pt (pw_or (pt_cmpR op_notN (pe_call G_check_tree_machine hr_check_tree_machine (by rfl) T.g_check_tree_machine T.F_check_tree_machine.kp T.b_check_tree_machine .nil passN (pa_cons (pv 3) pa_nil)) pe_non (nomark _)) (pw_or1 (pt_not (pt_val (pe_call G_law_refused hr_law_refused (by rfl) T.g_law_refused T.F_law_refused.kp T.b_law_refused .nil pass0 (pa_cons (pe_call G_law_bad hr_law_bad (by rfl) T.g_law_bad T.F_law_bad.kp T.b_law_bad .nil pass0 (pa_cons (pv 3) (pa_cons (pe_ix (r := rIx K) ix_seq (pv 1) pe_int (fun _ _ => rfl)) pa_nil))) pa_nil))))))) (pss_one (ps_ret pe_bl)) pss_nil)
      (pss_cons (ps_for PassesOwn.never rfl (pi_range1 (by rfl) T.n_range (pa_cons pe_int pa_nil)) (pg_name (i := 4) sc_law.nd rfl (Or.inl rfl))
        (pss_cons (ps_set (i := 5) sc_law.nd rfl (Or.inl rfl) (pe_call G_law_drawn_tree hr_law_drawn_tree (by rfl) T.g_law_drawn_tree T.F_law_drawn_tree.kp T.b_law_drawn_tree .nil pass0 (pa_cons (pv 2) (pa_cons (pe_slice sl_list (pv 1) (po_some (pe_op op_add pe_int (pe_op op_mul pe_int (pv 4)))) (po_some (pe_op op_add pe_int (pe_op op_mul pe_int (pv 4))))) (pa_cons (pe_op op_add pe_int (pe_op op_mod (pe_ix (r := rIx K) ix_seq (pv 1) (pe_op op_add pe_int (pv 4)) (fun _ _ => rfl)) pe_int)) pa_nil)))))
          (pss_cons (ps_if (PW.pt (pw_and (pt_cmpR op_eq (pe_op op_mod (pe_ix (r := rIx K) ix_seq (pv 1) pe_int (fun _ _ => rfl)) pe_int) pe_int (nomark _)) (pw_and1 (pt_cmpR op_in_seq pe_int (pv 2) rfl)))) (pss_one (ps_set (i := 5) sc_law.nd rfl (Or.inl rfl) (pe_op op_cat (pe_op op_rep (pe_lst (pa_cons (pe_bmF PySem.F.plainAttrs_tuple PySem.F.slot_tuple_index PySem.F.type_tuple_index mt_tupIdx (pv 2) (pa_cons pe_int pa_nil)) pa_nil)) pe_int) (pe_lst (pa_cons (pe_bmF PySem.F.plainAttrs_tuple PySem.F.slot_tuple_index PySem.F.type_tuple_index mt_tupIdx (pv 2) (pa_cons pe_int pa_nil)) pa_nil))))) pss_nil)
          (pss_cons (ps_set (i := 6) sc_law.nd rfl (Or.inl rfl) (pe_callTy call_list_of (by rfl) T.n_list (by decide +kernel) (pa_cons (pv 5) pa_nil)))
          (pss_cons (ps_set (i := 7) sc_law.nd rfl (Or.inl rfl) (pe_call G_state_of_tree hr_state_of_tree (by rfl) T.g_state_of_tree T.F_state_of_tree.kp T.b_state_of_tree .nil passN (pa_cons (pv 3) (pa_cons (pv 5) pa_nil))))
          (pss_cons (ps_set (i := 8) sc_law.nd rfl (Or.inl rfl) (pe_call G_output_of_tree hr_output_of_tree (by rfl) T.g_output_of_tree T.F_output_of_tree.kp T.b_output_of_tree .nil passN (pa_cons (pv 3) (pa_cons (pv 5) pa_nil))))
          (pss_cons (ps_if (PW.pt (pw_or (pt_val (pe_callB call_isi (by rfl) T.n_isinstance (by decide +kernel) (pa_cons (pv 7) (pa_cons (pe_bltn (v := .ty "bool") (u := .type "bool") (by rfl) T.n_bool (by decide +kernel) rfl) pa_nil)))) (pw_or (pt_val (pe_callB call_isi (by rfl) T.n_isinstance (by decide +kernel) (pa_cons (pv 8) (pa_cons (pe_bltn (v := .ty "bool") (u := .type "bool") (by rfl) T.n_bool (by decide +kernel) rfl) pa_nil)))) (pw_or1 (pt_cmpR (op_neD hr.units) (pv 5) (pv 6) (nomark _)))))) (pss_one (ps_ret pe_bl)) pss_nil)
          (pss_one (ps_if (PW.pt (pw_or (pt_cmpR op_ne (pv 7) (pe_call G_law_state hr_law_state (by rfl) T.g_law_state T.F_law_state.kp T.b_law_state .nil pass0 (pa_cons (pv 3) (pa_cons (pv 5) pa_nil))) (nomark _)) (pw_or1 (pt_cmpR op_ne (pv 8) (pe_ix (r := rIx K) ix_seq (pe_ix (r := rIx K) ix_seq (pv 3) pe_int (fun _ _ => rfl)) (pe_call G_law_state hr_law_state (by rfl) T.g_law_state T.F_law_state.kp T.b_law_state .nil pass0 (pa_cons (pv 3) (pa_cons (pv 5) pa_nil))) (fun _ _ => rfl)) (nomark _))))) (pss_one (ps_ret pe_bl)) pss_nil)))))))))
      (pss_one (ps_ret (pe_and (pe_call G_law_refused hr_law_refused (by rfl) T.g_law_refused T.F_law_refused.kp T.b_law_refused .nil pass0 (pa_cons (pe_call0 G_law_seven hr_law_seven (by rfl) T.g_law_seven T.F_law_seven.kp T.b_law_seven .nil pass0) pa_nil)) (pe_one (pe_call G_law_refused hr_law_refused (by rfl) T.g_law_refused T.F_law_refused.kp T.b_law_refused .nil pass0 (pa_cons (pe_tup (pa_cons (pe_tup (pa_cons pe_int pa_nil)) (pa_cons pe_int (pa_cons (pe_tup (pa_cons (pe_tup pa_nil) pa_nil)) (pa_cons (pe_tup pa_nil) pa_nil))))) pa_nil))))))))))), ?_⟩
    refine ⟨_, rfl, a, ns, 190, rfl, hS, l63, by decide, by decide, fun ms H1 p hN s1 hp0 hp => ?_⟩
    have ml : ms.length = 190 := by have := hN.len; omega
    have at_ : ∀ i : Nat, i < 190 → ∃ z, ms[i]? = some z ∧ 0 ≤ z := fun i hi =>
      ⟨ms[i], List.getElem?_eq_getElem (by omega), (hN.ok _ (List.getElem_mem _)).1⟩
    obtain ⟨z0, hz0, p0⟩ := at_ 0 (by decide)
    obtain ⟨z1, hz1, p1⟩ := at_ 1 (by decide)
    obtain ⟨z2, hz2, p2⟩ := at_ 2 (by decide)
    obtain ⟨z3, hz3, p3⟩ := at_ 3 (by decide)
    obtain ⟨z7, hz7, p7⟩ := at_ 7 (by decide)
    have hL := SqL.of (K := K) hp
    have k1 := Kp.of hT s1
    refine ⟨_, rfl, .inl ⟨p, _, 0, _, rfl, rfl, hL, atI_get? (by decide) hz0, ?_⟩⟩
    refine ⟨z0, rfl, p0, fun rs r H2 hrs s2 _ ⟨ro, nd, hr2⟩ => ?_⟩
    have hp2 := s2 _ _ hp
    refine ⟨_, rfl, 10, rfl, p, _, rfl, SqL.of hp2, fun d hd => ?_⟩
    have c10 : cutV (ms.map V.int) (some 10) none = (ms.drop 10).map V.int := by
      rw [cut_drop (by decide) (by rw [List.length_map, ml]; decide), List.map_drop]
      rfl
    rw [c10]
    have s3 := same_upd (o := .lst ((ms.drop 10).map V.int)) s2 hd
    have e3 : (upd H2 d (.lst ((ms.drop 10).map V.int))) d = some (.lst ((ms.drop 10).map V.int)) := upd_same
    have hr3 := same_upd (o := .lst ((ms.drop 10).map V.int)) (Same.refl H2) hd _ _ hr2
    generalize upd H2 d (.lst ((ms.drop 10).map V.int)) = H3 at *
    have hp3 := s3 _ _ hp
    refine ⟨_, rfl, _, rfl, .inl ⟨p, _, 1, _, rfl, rfl, SqL.of hp3, atI_get? (by decide) hz1, _, _, rfl, rfl, (by show (0 : Int) < 4; decide), _, _, rfl, rfl, ?_⟩⟩
    refine ⟨_, rfl, .inl ⟨p, _, 2, _, rfl, rfl, SqL.of hp3, atI_get? (by decide) hz2, _, _, rfl, rfl, (by show (0 : Int) < 6; decide), _, _, rfl, rfl, ?_⟩⟩
    refine ⟨d, r, ms.drop 10, rs, _, _, (1 + z2 % 6).toNat, rfl, by omega, SqL.of e3, ⟨by rw [List.length_drop, ml]; decide, fun z hz => (hN.ok z (List.mem_of_mem_drop hz)).1⟩, .inr ⟨ro, hr3⟩, hrs, by omega, by omega, by omega, by omega, fun M H4 m g eM _ _ s4 hM => ?_⟩
    subst eM
    have s34 := s3.trans s4
    have hp4 := s34 _ _ hp
    have hr4 := s4 _ _ hr3
    have k4 := k1.andS s34
    have o1 := g.o1
    have o4 := g.o4
    have n6 := g.n6
    -- the machine is one, and others are none
    refine ⟨_, rfl, m, M, rfl, hM, by omega, by omega, k4.tab, fun H5 k5 => ⟨fun _ => ?_, fun n => absurd g n⟩⟩
    refine ⟨rfl, _, rfl, iteF ?_⟩
    have k45 := k4.trans k5
    have hM5 := k5.tma k4.tab hM
    have hp5 := k5.lst k4.tab hp4
    have hr5 := k5.keep _ _ (tab_ne k4.tab hr4 (fun ps z => by cases z)) hr4
    refine ⟨_, rfl, _, rfl, .inl ⟨p, _, 3, _, rfl, rfl, SqL.of hp5, atI_get? (by decide) hz3, ?_⟩⟩
    refine ⟨m, M, z3, rfl, hM5, g, fun H6 q s6 bq => ?_⟩
    have k46 := k45.andS s6
    refine ⟨q, rfl, bq, k46.tab, fun H7 k7 => ⟨_, rfl, iteF ?_⟩⟩
    have k47 := k46.trans k7
    have hM7 := k7.tma k46.tab (hM5.same s6)
    have hp7 := k7.lst k46.tab (s6 _ _ hp5)
    have hr7 := k7.keep _ _ (tab_ne k46.tab (s6 _ _ hr5) (fun ps z => by cases z)) (s6 _ _ hr5)
    have t7 := k47.tab
    refine ⟨3, rfl, by decide, by decide, for_range (n := 3) (fun k σ H' => ∃ v4 v5 v6 v7 v8 : Option V, σ = [some (.ref a), some (.ref p), some (.ref r), some (.ref m), v4, v5, v6, v7, v8] ∧ Kp Pt H7 H')
      ⟨none, none, none, none, none, rfl, .refl t7⟩ ?_ ?_⟩
    · rintro k σ H8 hk ⟨v4, v5, v6, v7, v8, rfl, k8⟩
      have hk : k < 3 := hk
      have hM8 := k8.tma t7 hM7
      have hp8 := k8.lst t7 hp7
      have hr8 := k8.keep _ _ (tab_ne t7 hr7 (fun ps z => by cases z)) hr7
      have k18 := k47.trans k8
      obtain ⟨zk, hzk, pk⟩ := at_ (4 + k) (by omega)
      have hzk' : ms[((4 : Int) + (0 + (k : Int))).toNat]? = some zk := by
        have e : ((4 : Int) + (0 + (k : Int))).toNat = 4 + k := by omega
        rw [e]
        exact hzk
      refine ⟨_, rfl, _, rfl, _, rfl, _, _, rfl, rfl, .inl ⟨by decide, by decide⟩, _, _, rfl, rfl, _, rfl, _, rfl, _, _, rfl, rfl, .inl ⟨by decide, by decide⟩, _, _, rfl, rfl, _, rfl, p, _, rfl, SqL.of hp8, fun d hd => ?_⟩
      have cm : cutV (ms.map V.int) (some (60 + 20 * (0 + (k : Int)))) (some (80 + 20 * (0 + (k : Int)))) = ((ms.drop (60 + 20 * k)).take 20).map V.int := by
        rw [cut_mid (by omega) (by omega) (by rw [List.length_map, ml]; omega), List.map_take, List.map_drop]
        congr 1
        · omega
        · congr 1
          omega
      rw [cm]
      have ld : ((ms.drop (60 + 20 * k)).take 20).length = 20 := by
        rw [List.length_take, List.length_drop, ml]
        omega
      have od : ∀ z ∈ (ms.drop (60 + 20 * k)).take 20, 0 ≤ z := fun z hz => (hN.ok z (List.mem_of_mem_drop (List.mem_of_mem_take hz))).1
      generalize (ms.drop (60 + 20 * k)).take 20 = ds at ld od
      have sX := fresh_same (o := .lst (ds.map V.int)) hd
      revert sX
      generalize upd H8 d (.lst (ds.map V.int)) = H9
      rintro ⟨s9, e9⟩
      have m0 := Int.emod_nonneg zk (show (60 : Int) ≠ 0 by decide)
      have m1 := Int.emod_lt_of_pos zk (show (0 : Int) < 60 by decide)
      refine ⟨_, rfl, _, rfl, _, _, rfl, rfl, .inl ⟨p, _, _, _, rfl, rfl, SqL.of (s9 _ _ hp8), atI_get? (by omega) hzk', _, _, rfl, rfl, (by show (0 : Int) < 60; decide), _, _, rfl, rfl, ?_⟩⟩
      refine ⟨r, d, M.rs, ds, _, rfl, rd_t (.inr ⟨ro, s9 _ _ hr8⟩), hrs, SqL.of e9, ⟨by omega, od⟩, by omega, by omega, fun ts t H10 tb tl t0 s10 _ ht10 => ?_⟩
      have s810 := s9.trans s10
      have hp10 := s810 _ _ hp8
      have hr10 := s810 _ _ hr8
      have hM10 := hM8.same s810
      have k10 := k18.andS s810
      have k710 := k8.andS s810
      have tb4 : ts.length ≤ 400 := by
        unfold treeB at tb
        rw [Bool.and_eq_true, Bool.and_eq_true] at tb
        exact of_decide_eq_true tb.1.1
      refine ⟨_, rfl, .inl ⟨p, _, 7, _, rfl, rfl, SqL.of hp10, atI_get? (by decide) hz7, _, _, rfl, rfl, (by show (0 : Int) < 8; decide), rfl, _, rfl, ?_⟩⟩
      refine ite2 (fun c7 => ?both) (fun c7 => ?nope)
      case' nope =>
        refine iteF ?_
        have eT := ht10
        clear ht10 t0 tl
        generalize H10 = G at *
        generalize ts = ts2 at *
      case' both =>
        refine ⟨_, rfl, r, _, rfl,   .inr (rd_t (.inr ⟨ro, hr10⟩)), rfl, flatI _, _, rfl, ?_⟩
        rw [inVI]
        refine ite2 (fun c1 => ?yes) (fun c1 => ?no)
      case' no =>
        have eT := ht10
        clear ht10 t0 tl
        generalize H10 = G at *
        generalize ts = ts2 at *
      case' yes =>
        have c1 : (1 : Int) ∈ M.rs := of_decide_eq_true c1
        have c0 : (0 : Int) ∈ M.rs := (ranks_iff.mp hrs).2.2.2
        obtain ⟨i1, l1⟩ := idx_at c1
        obtain ⟨i0, l0⟩ := idx_at c0
        have r5 := (ranks_iff.mp hrs).2.1
        refine ⟨_, rfl, ⟨r, ro, _, rfl, hr10, nd⟩, r, _, _, rfl, rfl, rd_t (.inr ⟨ro, hr10⟩), c1, ?_⟩
        have S : Same H10 H10 := Same.refl _
        have hr10b := hr10
        refine ⟨(by show 1 ≤ sizeLine; decide), ?_⟩
        intro l1 hl1
        have sX := fresh_same (o := .lst [.int ((M.rs.idxOf 1 : Nat) : Int)]) hl1
        revert sX
        generalize upd H10 l1 (.lst [.int ((M.rs.idxOf 1 : Nat) : Int)]) = G1
        rintro ⟨s, e1⟩
        clear hl1
        replace hr10b := s _ _ hr10b
        replace S := S.trans s
        clear s
        refine ⟨l1, _, _, rfl, rfl, e1, by decide, by decide, (by show 1 * 399 ≤ sizeLine; decide), ?_⟩
        rw [show ((399 : Int).toNat) = 399 from rfl, repI]
        intro l2 hl2
        have sX := fresh_same (o := .lst ((List.replicate 399 ((M.rs.idxOf 1 : Nat) : Int)).map V.int)) hl2
        revert sX
        generalize upd G1 l2 (.lst ((List.replicate 399 ((M.rs.idxOf 1 : Nat) : Int)).map V.int)) = G2
        rintro ⟨s, e2⟩
        clear hl2
        replace hr10b := s _ _ hr10b
        replace S := S.trans s
        clear s
        refine ⟨_, rfl, ⟨r, ro, _, rfl, hr10b, nd⟩, r, _, _, rfl, rfl, rd_t (.inr ⟨ro, hr10b⟩), c0, ?_⟩
        refine ⟨(by show 1 ≤ sizeLine; decide), ?_⟩
        intro l3 hl3
        have sX := fresh_same (o := .lst [.int ((M.rs.idxOf 0 : Nat) : Int)]) hl3
        revert sX
        generalize upd G2 l3 (.lst [.int ((M.rs.idxOf 0 : Nat) : Int)]) = G3
        rintro ⟨s, e3⟩
        clear hl3
        replace hr10b := s _ _ hr10b
        replace e2 := s _ _ e2
        replace S := S.trans s
        clear s
        refine ⟨l2, l3, _, _, rfl, rfl, e2, e3, (by rw [List.length_map, List.length_replicate]; show 400 ≤ sizeLine; decide), ?_⟩
        have ecat : ((List.replicate 399 ((M.rs.idxOf 1 : Nat) : Int)).map V.int ++ [.int ((M.rs.idxOf 0 : Nat) : Int)]) = ((List.replicate 399 ((M.rs.idxOf 1 : Nat) : Int) ++ [((M.rs.idxOf 0 : Nat) : Int)]).map V.int) := by
          rw [List.map_append]
          rfl
        rw [ecat]
        have tb2 : treeB M.rs (List.replicate 399 ((M.rs.idxOf 1 : Nat) : Int) ++ [((M.rs.idxOf 0 : Nat) : Int)]) = true := by
          unfold treeB
          rw [chain_lack (by rw [Int.toNat_natCast, List.getD_eq_getElem?_getD, i1]; rfl) (by rw [Int.toNat_natCast, List.getD_eq_getElem?_getD, i0]; rfl), below_iff.mpr fun z hz => ?_, decide_eq_true (by rw [List.length_append, List.length_replicate]; exact Nat.le_refl 400)]
          · rfl
          · rcases List.mem_append.mp hz with e | e
            · rw [(List.mem_replicate.mp e).2]
              omega
            · rw [List.mem_singleton.mp e]
              omega
        clear tb tb4 tl t0 ht10
        generalize (List.replicate 399 ((M.rs.idxOf 1 : Nat) : Int) ++ [((M.rs.idxOf 0 : Nat) : Int)]) = ts2 at *
        intro t2 ht2
        have sX := fresh_same (o := .lst (ts2.map V.int)) ht2
        revert sX
        generalize upd G3 t2 (.lst (ts2.map V.int)) = G
        rintro ⟨s, eT⟩
        clear ht2
        replace S := S.trans s
        clear s
        have tb := tb2
        replace hM10 := hM10.same S
        replace k10 := k10.andS S
        replace k710 := k710.andS S
        clear S e1 e2 e3 hr10b
      all_goals
        refine ⟨_, rfl, _, _, rfl, .inl (SqL.of eT), fun kp hkp => ?_⟩
        have sX := fresh_same (o := .lst (ts2.map V.int)) hkp
        revert sX
        generalize upd G kp (.lst (ts2.map V.int)) = G0
        rintro ⟨sk, eK⟩
        replace eT := sk _ _ eT
        replace hM10 := hM10.same sk
        replace k10 := k10.andS sk
        replace k710 := k710.andS sk
        refine ⟨_, rfl, _, rfl, m, _, M, ts2, rfl, hM10, g, SqL.of eT, k10.tab, tb, fun H11 k11 => ?_⟩
        replace eT := k11.lst k10.tab eT
        replace eK := k11.lst k10.tab eK
        replace hM10 := k11.tma k10.tab hM10
        replace k710 := k710.trans k11
        replace k10 := k10.trans k11
        refine ⟨_, rfl, _, rfl, m, _, M, ts2, rfl, hM10, g, SqL.of eT, k10.tab, tb, fun H12 k12 => ?_⟩
        replace eT := k12.lst k10.tab eT
        replace eK := k12.lst k10.tab eK
        replace hM10 := k12.tma k10.tab hM10
        replace k710 := k710.trans k12
        replace k10 := k10.trans k12
        refine ⟨_, rfl, _, .ty "bool", _, _, _, rfl, .ty _, .base (.int _), kit_int_bool, _, rfl, iteF ?_⟩
        refine ⟨_, rfl, _, .ty "bool", _, _, _, rfl, .ty _, .base (.int _), kit_int_bool, _, rfl, iteF ?_⟩
        refine ⟨_, rfl, _, rfl, ne_lists (SqL.of eT) (SqL.of eK) ⟨_, rfl, ?_⟩⟩
        refine ite2 (fun c => absurd c (by simp)) (fun _ => ?_)
        refine ⟨_, rfl, _, rfl, _, rfl, m, _, M, ts2, rfl, hM10, g, SqL.of eT, tb, fun H13 s13 => ?_⟩
        refine ⟨rfl, _, rfl, ?_⟩
        refine ite2 (fun c => absurd c (by simp)) (fun _ => ?_)
        obtain ⟨r', ru', ou', qs', hMt⟩ := id (hM10.same s13)
        refine ⟨_, rfl, _, rfl, .inr (.inl ⟨m, _, 3, _, rfl, rfl, SqT.of hMt.top, rfl, ?_⟩)⟩
        refine ⟨_, rfl, _, rfl, m, _, M, ts2, rfl, hM10.same s13, g, SqL.of (s13 _ _ eT), tb, fun H14 s14 => ?_⟩
        obtain ⟨_, q0, q1⟩ := stack_one g tb
        refine .inr (.inl ⟨ou', _, _, _, rfl, rfl, SqT.of (s14 _ _ hMt.ou), atI_get? q0 (getD_at q0 q1), ?_⟩)
        refine ⟨rfl, _, rfl, ?_⟩
        refine ite2 (fun c => absurd c (by simp)) (fun _ => ?_)
        exact ⟨_, _, _, _, _, rfl, k710.andS (s13.trans s14)⟩
    · rintro σ H8 ⟨v4, v5, v6, v7, v8, rfl, k8⟩
      have t8 := k8.tab
      have k18 := k47.trans k8
      refine ⟨rfl, fun H9 q s9 bq => ?_⟩
      refine ⟨q, rfl, bq, (k18.andS s9).tab, fun H10 k10 => ⟨_, rfl, iteT ?_⟩⟩
      have kE := (k18.andS s9).trans k10
      have S : Same H10 H10 := Same.refl _
      refine ⟨(by show 1 ≤ sizeLine; decide), ?_⟩
      intro r1 hr1
      have sX := fresh_same (o := .tup [.int 0]) hr1
      revert sX
      generalize upd H10 r1 (.tup [.int 0]) = G1
      rintro ⟨s, er⟩
      clear hr1
      replace S := S.trans s
      clear s
      refine ⟨(by show 0 ≤ sizeLine; decide), ?_⟩
      intro q1 hq1
      have sX := fresh_same (o := .tup []) hq1
      revert sX
      generalize upd G1 q1 (.tup []) = G2
      rintro ⟨s, e1⟩
      clear hq1
      replace er := s _ _ er
      replace S := S.trans s
      clear s
      refine ⟨(by show 1 ≤ sizeLine; decide), ?_⟩
      intro ru hru
      have sX := fresh_same (o := .tup [.ref q1]) hru
      revert sX
      generalize upd G2 ru (.tup [.ref q1]) = G3
      rintro ⟨s, eru⟩
      clear hru
      replace er := s _ _ er
      replace e1 := s _ _ e1
      replace S := S.trans s
      clear s
      refine ⟨(by show 0 ≤ sizeLine; decide), ?_⟩
      intro ou hou
      have sX := fresh_same (o := .tup []) hou
      revert sX
      generalize upd G3 ou (.tup []) = G4
      rintro ⟨s, eou⟩
      clear hou
      replace er := s _ _ er
      replace e1 := s _ _ e1
      replace eru := s _ _ eru
      replace S := S.trans s
      clear s
      refine ⟨(by show 4 ≤ sizeLine; decide), ?_⟩
      intro mm hmm
      have sX := fresh_same (o := .tup [.ref r1, .int 1, .ref ru, .ref ou]) hmm
      revert sX
      generalize upd G4 mm (.tup [.ref r1, .int 1, .ref ru, .ref ou]) = G5
      rintro ⟨s, em⟩
      clear hmm
      replace er := s _ _ er
      replace e1 := s _ _ e1
      replace eru := s _ _ eru
      replace eou := s _ _ eou
      replace S := S.trans s
      clear s
      have bd : Bad G5 mm := ⟨⟨[0], 1, [[]], []⟩, ⟨r1, ru, ou, [q1], em, .inl er, eru, eou, rfl, fun i q w a b => by
        match i, a, b with
        | 0, a, b =>
          cases a
          cases b
          exact e1
        | i + 1, a, b => simp at a⟩, fun g => absurd g.n1 (by show ¬ 1 ≤ 0; decide), by show (1 : Int).natAbs < _; decide, by show 0 < _; decide⟩
      exact ⟨mm, rfl, bd, (kE.andS S).tab, fun H11 k11 => fin H11⟩
end
end K61

set_option Elab.async false
set_option linter.all false
set_option maxRecDepth 100000
set_option maxHeartbeats 4000000
namespace K61
open PySem PySem.Spec PyProof.Rows L2 L2H Mz
theorem all_mk {K : PySem.W.Frag} {h : Heap} {mg : Str → Option Value} {fa : Addr} (X : K.In h) (G : h.Ns mainGlobals mg) (hfa : mg "law" = some (.ref fa))
    {c_MaieuticError c_NotAllowed c_Missing f_are_below f_are_ranks f_is_tree f_check_tree_machine f_check_tree f_state_of_tree f_output_of_tree f_states_of_trees f_law_numbers f_law_ranks f_law_tree_machine f_law_rule f_law_state f_law_drawn_tree f_law_bad f_law_refused f_law_seven f_law : Addr} {od0 an0 od1 an1 od2 an2 od3 an3 od4 an4 od5 an5 od6 an6 od7 an7 od8 an8 od9 an9 od10 an10 od11 an11 od12 an12 od13 an13 od14 an14 od15 an15 od16 an16 od17 an17 : Option Addr} {sl0 sl1 sl2 sl3 sl4 sl5 sl6 sl7 sl8 sl9 sl10 sl11 sl12 sl13 sl14 sl15 sl16 sl17 : Array (Option Value)}
    {oc0 kV0 dc0 pm0 ct0 oc1 kV1 dc1 pm1 cd1 ct1 oc2 kV2 dc2 pm2 cd2 ct2 oc3 kV3 dc3 pm3 cd3 ct3 oc4 kV4 dc4 pm4 cd4 ct4 oc5 kV5 dc5 pm5 cd5 ct5 oc6 kV6 dc6 pm6 cd6 ct6 oc7 kV7 dc7 pm7 cd7 ct7 oc8 kV8 dc8 pm8 cd8 ct8 oc9 kV9 dc9 pm9 cd9 ct9 oc10 kV10 dc10 pm10 cd10 ct10 oc11 kV11 dc11 pm11 cd11 ct11 oc12 kV12 dc12 pm12 cd12 ct12 oc13 kV13 dc13 pm13 cd13 ct13 oc14 kV14 dc14 pm14 cd14 ct14 oc15 kV15 dc15 pm15 cd15 ct15 oc16 kV16 dc16 pm16 cd16 ct16 oc17 kV17 dc17 pm17 cd17 ct17 vc0 vc1 vc2 vc3 vc4 : Value}
    {tc0 tp0 : Addr} {te0 : Value} {td0 : Option Addr} {tv0 : Array Value} {ts0 : Array (Option Value)}
    (r_MaieuticError : PySem.W.nsIn K mainGlobals "MaieuticError" = some (some (.ref c_MaieuticError)))
    (rx_MaieuticError : PySem.W.excIn K c_MaieuticError [.type "ValueError", .type "Exception", .type "BaseException", .type "object"] "ValueError.__new__" = true)
    (rk_MaieuticError : PySem.W.keepIn K (.ref c_MaieuticError) = true)
    (rb_MaieuticError : PySem.W.subIn K (.ref c_MaieuticError) (.type "BaseException") = some true)
    (rt_MaieuticError : PySem.W.typeIn K (.ref c_MaieuticError) = some (.type "type"))
    (rga_MaieuticError : PySem.W.findIn K (.ref c_MaieuticError) "__getattribute__" = some (some (.builtin "BaseException.__getattribute__")))
    (rgg_MaieuticError : PySem.W.findIn K (.ref c_MaieuticError) "__getattr__" = some none)
    (rh_MaieuticError : PySem.W.hasDictIn K c_MaieuticError = true)
    (rc_MaieuticError : PySem.W.findIn K (.ref c_MaieuticError) "__class__" = some (some (.builtin "object.__class__")))
    (rm_MaieuticError : PySem.W.mroIn K c_MaieuticError (.type "object") = some true)
    (r_NotAllowed : PySem.W.nsIn K mainGlobals "NotAllowed" = some (some (.ref c_NotAllowed)))
    (rx_NotAllowed : PySem.W.excIn K c_NotAllowed [.type "ValueError", .type "Exception", .type "BaseException", .type "object"] "ValueError.__new__" = true)
    (rk_NotAllowed : PySem.W.keepIn K (.ref c_NotAllowed) = true)
    (rb_NotAllowed : PySem.W.subIn K (.ref c_NotAllowed) (.type "BaseException") = some true)
    (rt_NotAllowed : PySem.W.typeIn K (.ref c_NotAllowed) = some (.type "type"))
    (rga_NotAllowed : PySem.W.findIn K (.ref c_NotAllowed) "__getattribute__" = some (some (.builtin "BaseException.__getattribute__")))
    (rgg_NotAllowed : PySem.W.findIn K (.ref c_NotAllowed) "__getattr__" = some none)
    (rh_NotAllowed : PySem.W.hasDictIn K c_NotAllowed = true)
    (rc_NotAllowed : PySem.W.findIn K (.ref c_NotAllowed) "__class__" = some (some (.builtin "object.__class__")))
    (rm_NotAllowed : PySem.W.mroIn K c_NotAllowed (.type "object") = some true)
    (r_Missing : PySem.W.nsIn K mainGlobals "Missing" = some (some (.ref c_Missing)))
    (rx_Missing : PySem.W.excIn K c_Missing [.type "ValueError", .type "Exception", .type "BaseException", .type "object"] "ValueError.__new__" = true)
    (rk_Missing : PySem.W.keepIn K (.ref c_Missing) = true)
    (rb_Missing : PySem.W.subIn K (.ref c_Missing) (.type "BaseException") = some true)
    (rt_Missing : PySem.W.typeIn K (.ref c_Missing) = some (.type "type"))
    (rga_Missing : PySem.W.findIn K (.ref c_Missing) "__getattribute__" = some (some (.builtin "BaseException.__getattribute__")))
    (rgg_Missing : PySem.W.findIn K (.ref c_Missing) "__getattr__" = some none)
    (rh_Missing : PySem.W.hasDictIn K c_Missing = true)
    (rc_Missing : PySem.W.findIn K (.ref c_Missing) "__class__" = some (some (.builtin "object.__class__")))
    (rm_Missing : PySem.W.mroIn K c_Missing (.type "object") = some true)
    (ra1 : PySem.W.specialIn K (.builtin "object.__class__") "__get__" = some (some (.builtin "getset_descriptor.__get__")))
    (ra2 : PySem.W.takesIn K (.builtin "object.__class__") = some true)
    (rsu_MaieuticError_MaieuticError : PySem.W.subIn K (.ref c_MaieuticError) (.ref c_MaieuticError) = some true)
    (rsu_MaieuticError_NotAllowed : PySem.W.subIn K (.ref c_MaieuticError) (.ref c_NotAllowed) = some false)
    (rsu_MaieuticError_Missing : PySem.W.subIn K (.ref c_MaieuticError) (.ref c_Missing) = some false)
    (rsu_NotAllowed_MaieuticError : PySem.W.subIn K (.ref c_NotAllowed) (.ref c_MaieuticError) = some true)
    (rsu_NotAllowed_NotAllowed : PySem.W.subIn K (.ref c_NotAllowed) (.ref c_NotAllowed) = some true)
    (rsu_NotAllowed_Missing : PySem.W.subIn K (.ref c_NotAllowed) (.ref c_Missing) = some false)
    (rsu_Missing_MaieuticError : PySem.W.subIn K (.ref c_Missing) (.ref c_MaieuticError) = some true)
    (rsu_Missing_NotAllowed : PySem.W.subIn K (.ref c_Missing) (.ref c_NotAllowed) = some false)
    (rsu_Missing_Missing : PySem.W.subIn K (.ref c_Missing) (.ref c_Missing) = some true)
    (rsv_MaieuticError : PySem.W.subIn K (.ref c_MaieuticError) (.type "ValueError") = some true)
    (rsv_NotAllowed : PySem.W.subIn K (.ref c_NotAllowed) (.type "ValueError") = some true)
    (rsv_Missing : PySem.W.subIn K (.ref c_Missing) (.type "ValueError") = some true)
    (q_are_below : PySem.W.nsIn K mainGlobals "are_below" = some (some (.ref f_are_below)))
    (l_are_below : K.lookup f_are_below = some ⟨oc0, od0, .func (PySem.W.fnOf "are_below" "are_below" (defArgs s_are_below) (defBody s_are_below) (defScope s_are_below) .none kV0 dc0 pm0 an0 (.ref tc0) ct0), sl0⟩)
    (cc_are_below : PySem.W.codeIn K (.ref tc0) "are_below" = true)
    (tk_are_below : K.lookup tc0 = some ⟨te0, td0, .fields tv0, ts0⟩)
    (tv_are_below : (tv0[11]? : Option Value) = some (.ref tp0))
    (tn_are_below : K.lookup tp0 = none)
    (kk_are_below : PySem.W.keepIn K (.ref f_are_below) = true)
    (q_are_ranks : PySem.W.nsIn K mainGlobals "are_ranks" = some (some (.ref f_are_ranks)))
    (l_are_ranks : K.lookup f_are_ranks = some ⟨oc1, od1, .func (PySem.W.fnOf "are_ranks" "are_ranks" (defArgs s_are_ranks) (defBody s_are_ranks) (defScope s_are_ranks) .none kV1 dc1 pm1 an1 cd1 ct1), sl1⟩)
    (cc_are_ranks : PySem.W.codeIn K cd1 "are_ranks" = true)
    (kk_are_ranks : PySem.W.keepIn K (.ref f_are_ranks) = true)
    (q_is_tree : PySem.W.nsIn K mainGlobals "is_tree" = some (some (.ref f_is_tree)))
    (l_is_tree : K.lookup f_is_tree = some ⟨oc2, od2, .func (PySem.W.fnOf "is_tree" "is_tree" (defArgs s_is_tree) (defBody s_is_tree) (defScope s_is_tree) .none kV2 dc2 pm2 an2 cd2 ct2), sl2⟩)
    (cc_is_tree : PySem.W.codeIn K cd2 "is_tree" = true)
    (kk_is_tree : PySem.W.keepIn K (.ref f_is_tree) = true)
    (q_check_tree_machine : PySem.W.nsIn K mainGlobals "check_tree_machine" = some (some (.ref f_check_tree_machine)))
    (l_check_tree_machine : K.lookup f_check_tree_machine = some ⟨oc3, od3, .func (PySem.W.fnOf "check_tree_machine" "check_tree_machine" (defArgs s_check_tree_machine) (defBody s_check_tree_machine) (defScope s_check_tree_machine) .none kV3 dc3 pm3 an3 cd3 ct3), sl3⟩)
    (cc_check_tree_machine : PySem.W.codeIn K cd3 "check_tree_machine" = true)
    (kk_check_tree_machine : PySem.W.keepIn K (.ref f_check_tree_machine) = true)
    (q_check_tree : PySem.W.nsIn K mainGlobals "check_tree" = some (some (.ref f_check_tree)))
    (l_check_tree : K.lookup f_check_tree = some ⟨oc4, od4, .func (PySem.W.fnOf "check_tree" "check_tree" (defArgs s_check_tree) (defBody s_check_tree) (defScope s_check_tree) .none kV4 dc4 pm4 an4 cd4 ct4), sl4⟩)
    (cc_check_tree : PySem.W.codeIn K cd4 "check_tree" = true)
    (kk_check_tree : PySem.W.keepIn K (.ref f_check_tree) = true)
    (q_state_of_tree : PySem.W.nsIn K mainGlobals "state_of_tree" = some (some (.ref f_state_of_tree)))
    (l_state_of_tree : K.lookup f_state_of_tree = some ⟨oc5, od5, .func (PySem.W.fnOf "state_of_tree" "state_of_tree" (defArgs s_state_of_tree) (defBody s_state_of_tree) (defScope s_state_of_tree) .none kV5 dc5 pm5 an5 cd5 ct5), sl5⟩)
    (cc_state_of_tree : PySem.W.codeIn K cd5 "state_of_tree" = true)
    (kk_state_of_tree : PySem.W.keepIn K (.ref f_state_of_tree) = true)
    (q_output_of_tree : PySem.W.nsIn K mainGlobals "output_of_tree" = some (some (.ref f_output_of_tree)))
    (l_output_of_tree : K.lookup f_output_of_tree = some ⟨oc6, od6, .func (PySem.W.fnOf "output_of_tree" "output_of_tree" (defArgs s_output_of_tree) (defBody s_output_of_tree) (defScope s_output_of_tree) .none kV6 dc6 pm6 an6 cd6 ct6), sl6⟩)
    (cc_output_of_tree : PySem.W.codeIn K cd6 "output_of_tree" = true)
    (kk_output_of_tree : PySem.W.keepIn K (.ref f_output_of_tree) = true)
    (q_states_of_trees : PySem.W.nsIn K mainGlobals "states_of_trees" = some (some (.ref f_states_of_trees)))
    (l_states_of_trees : K.lookup f_states_of_trees = some ⟨oc7, od7, .func (PySem.W.fnOf "states_of_trees" "states_of_trees" (defArgs s_states_of_trees) (defBody s_states_of_trees) (defScope s_states_of_trees) .none kV7 dc7 pm7 an7 cd7 ct7), sl7⟩)
    (cc_states_of_trees : PySem.W.codeIn K cd7 "states_of_trees" = true)
    (kk_states_of_trees : PySem.W.keepIn K (.ref f_states_of_trees) = true)
    (q_law_numbers : PySem.W.nsIn K mainGlobals "_law_numbers" = some (some (.ref f_law_numbers)))
    (l_law_numbers : K.lookup f_law_numbers = some ⟨oc8, od8, .func (PySem.W.fnOf "_law_numbers" "_law_numbers" (defArgs s_law_numbers) (defBody s_law_numbers) (defScope s_law_numbers) .none kV8 dc8 pm8 an8 cd8 ct8), sl8⟩)
    (cc_law_numbers : PySem.W.codeIn K cd8 "_law_numbers" = true)
    (kk_law_numbers : PySem.W.keepIn K (.ref f_law_numbers) = true)
    (q_law_ranks : PySem.W.nsIn K mainGlobals "_law_ranks" = some (some (.ref f_law_ranks)))
    (l_law_ranks : K.lookup f_law_ranks = some ⟨oc9, od9, .func (PySem.W.fnOf "_law_ranks" "_law_ranks" (defArgs s_law_ranks) (defBody s_law_ranks) (defScope s_law_ranks) .none kV9 dc9 pm9 an9 cd9 ct9), sl9⟩)
    (cc_law_ranks : PySem.W.codeIn K cd9 "_law_ranks" = true)
    (kk_law_ranks : PySem.W.keepIn K (.ref f_law_ranks) = true)
    (q_law_tree_machine : PySem.W.nsIn K mainGlobals "_law_tree_machine" = some (some (.ref f_law_tree_machine)))
    (l_law_tree_machine : K.lookup f_law_tree_machine = some ⟨oc10, od10, .func (PySem.W.fnOf "_law_tree_machine" "_law_tree_machine" (defArgs s_law_tree_machine) (defBody s_law_tree_machine) (defScope s_law_tree_machine) .none kV10 dc10 pm10 an10 cd10 ct10), sl10⟩)
    (cc_law_tree_machine : PySem.W.codeIn K cd10 "_law_tree_machine" = true)
    (kk_law_tree_machine : PySem.W.keepIn K (.ref f_law_tree_machine) = true)
    (q_law_rule : PySem.W.nsIn K mainGlobals "_law_rule" = some (some (.ref f_law_rule)))
    (l_law_rule : K.lookup f_law_rule = some ⟨oc11, od11, .func (PySem.W.fnOf "_law_rule" "_law_rule" (defArgs s_law_rule) (defBody s_law_rule) (defScope s_law_rule) .none kV11 dc11 pm11 an11 cd11 ct11), sl11⟩)
    (cc_law_rule : PySem.W.codeIn K cd11 "_law_rule" = true)
    (kk_law_rule : PySem.W.keepIn K (.ref f_law_rule) = true)
    (q_law_state : PySem.W.nsIn K mainGlobals "_law_state" = some (some (.ref f_law_state)))
    (l_law_state : K.lookup f_law_state = some ⟨oc12, od12, .func (PySem.W.fnOf "_law_state" "_law_state" (defArgs s_law_state) (defBody s_law_state) (defScope s_law_state) .none kV12 dc12 pm12 an12 cd12 ct12), sl12⟩)
    (cc_law_state : PySem.W.codeIn K cd12 "_law_state" = true)
    (kk_law_state : PySem.W.keepIn K (.ref f_law_state) = true)
    (q_law_drawn_tree : PySem.W.nsIn K mainGlobals "_law_drawn_tree" = some (some (.ref f_law_drawn_tree)))
    (l_law_drawn_tree : K.lookup f_law_drawn_tree = some ⟨oc13, od13, .func (PySem.W.fnOf "_law_drawn_tree" "_law_drawn_tree" (defArgs s_law_drawn_tree) (defBody s_law_drawn_tree) (defScope s_law_drawn_tree) .none kV13 dc13 pm13 an13 cd13 ct13), sl13⟩)
    (cc_law_drawn_tree : PySem.W.codeIn K cd13 "_law_drawn_tree" = true)
    (kk_law_drawn_tree : PySem.W.keepIn K (.ref f_law_drawn_tree) = true)
    (q_law_bad : PySem.W.nsIn K mainGlobals "_law_bad" = some (some (.ref f_law_bad)))
    (l_law_bad : K.lookup f_law_bad = some ⟨oc14, od14, .func (PySem.W.fnOf "_law_bad" "_law_bad" (defArgs s_law_bad) (defBody s_law_bad) (defScope s_law_bad) .none kV14 dc14 pm14 an14 cd14 ct14), sl14⟩)
    (cc_law_bad : PySem.W.codeIn K cd14 "_law_bad" = true)
    (kk_law_bad : PySem.W.keepIn K (.ref f_law_bad) = true)
    (q_law_refused : PySem.W.nsIn K mainGlobals "_law_refused" = some (some (.ref f_law_refused)))
    (l_law_refused : K.lookup f_law_refused = some ⟨oc15, od15, .func (PySem.W.fnOf "_law_refused" "_law_refused" (defArgs s_law_refused) (defBody s_law_refused) (defScope s_law_refused) .none kV15 dc15 pm15 an15 cd15 ct15), sl15⟩)
    (cc_law_refused : PySem.W.codeIn K cd15 "_law_refused" = true)
    (kk_law_refused : PySem.W.keepIn K (.ref f_law_refused) = true)
    (q_law_seven : PySem.W.nsIn K mainGlobals "_law_seven" = some (some (.ref f_law_seven)))
    (l_law_seven : K.lookup f_law_seven = some ⟨oc16, od16, .func (PySem.W.fnOf "_law_seven" "_law_seven" (defArgs s_law_seven) (defBody s_law_seven) (defScope s_law_seven) .none kV16 dc16 pm16 an16 cd16 ct16), sl16⟩)
    (cc_law_seven : PySem.W.codeIn K cd16 "_law_seven" = true)
    (kk_law_seven : PySem.W.keepIn K (.ref f_law_seven) = true)
    (q_law : PySem.W.nsIn K mainGlobals "law" = some (some (.ref f_law)))
    (l_law : K.lookup f_law = some ⟨oc17, od17, .func (PySem.W.fnOf "law" "law" (defArgs s_law) (defBody s_law) (defScope s_law) .none kV17 dc17 pm17 an17 cd17 ct17), sl17⟩)
    (cc_law : PySem.W.codeIn K cd17 "law" = true)
    (kk_law : PySem.W.keepIn K (.ref f_law) = true)
    (vv_MAX_SYMBOLS : PySem.W.nsIn K mainGlobals "MAX_SYMBOLS" = some (some vc0))
    (vr_MAX_SYMBOLS : RelV (.int 5) vc0)
    (vv_MAX_RANK : PySem.W.nsIn K mainGlobals "MAX_RANK" = some (some vc1))
    (vr_MAX_RANK : RelV (.int 2) vc1)
    (vv_MAX_TREE_STATES : PySem.W.nsIn K mainGlobals "MAX_TREE_STATES" = some (some vc2))
    (vr_MAX_TREE_STATES : RelV (.int 6) vc2)
    (vv_MAX_TREE_OUTS : PySem.W.nsIn K mainGlobals "MAX_TREE_OUTS" = some (some vc3))
    (vr_MAX_TREE_OUTS : RelV (.int 4) vc3)
    (vv_MAX_NODES : PySem.W.nsIn K mainGlobals "MAX_NODES" = some (some vc4))
    (vr_MAX_NODES : RelV (.int 400) vc4)
    (z_all : PySem.W.nsIn K mainGlobals "all" = some none)
    (z_len : PySem.W.nsIn K mainGlobals "len" = some none)
    (z_zip : PySem.W.nsIn K mainGlobals "zip" = some none)
    (z_reversed : PySem.W.nsIn K mainGlobals "reversed" = some none)
    (z_range : PySem.W.nsIn K mainGlobals "range" = some none)
    (z_abs : PySem.W.nsIn K mainGlobals "abs" = some none)
    (z_int : PySem.W.nsIn K mainGlobals "int" = some none)
    (z_max : PySem.W.nsIn K mainGlobals "max" = some none)
    (z_tuple : PySem.W.nsIn K mainGlobals "tuple" = some none)
    (z_isinstance : PySem.W.nsIn K mainGlobals "isinstance" = some none)
    (z_ValueError : PySem.W.nsIn K mainGlobals "ValueError" = some none)
    (z_list : PySem.W.nsIn K mainGlobals "list" = some none)
    (z_bool : PySem.W.nsIn K mainGlobals "bool" = some none) :
    ∃ (A : Ads) (c_are_below t_are_below : Addr), A.a_law = fa ∧ Txt K mg A ∧ (∀ (s : Shared) (v : Value), BindsTo s A.d_law ⟨[v], []⟩ [("script", v)]) ∧ A.d_are_below.code = .ref c_are_below ∧ PySem.W.tabIn K "are_below" = some (c_are_below, t_are_below) ∧ K.lookup t_are_below = none := by
  have e := hfa.symm.trans (PySem.W.mg_of X G q_law)
  cases e
  have tab_are_below : PySem.W.tabIn K "are_below" = some (tc0, tp0) := by
    unfold PySem.W.tabIn
    rw [q_are_below]
    dsimp only
    rw [l_are_below]
    dsimp only [PySem.W.fnOf]
    rw [tk_are_below]
    dsimp only
    rw [tv_are_below]
  refine ⟨{ a_MaieuticError := c_MaieuticError, a_NotAllowed := c_NotAllowed, a_Missing := c_Missing, a_are_below := f_are_below, d_are_below := PySem.W.fnOf "are_below" "are_below" (defArgs s_are_below) (defBody s_are_below) (defScope s_are_below) .none kV0 dc0 pm0 an0 (.ref tc0) ct0, a_are_ranks := f_are_ranks, d_are_ranks := PySem.W.fnOf "are_ranks" "are_ranks" (defArgs s_are_ranks) (defBody s_are_ranks) (defScope s_are_ranks) .none kV1 dc1 pm1 an1 cd1 ct1, a_is_tree := f_is_tree, d_is_tree := PySem.W.fnOf "is_tree" "is_tree" (defArgs s_is_tree) (defBody s_is_tree) (defScope s_is_tree) .none kV2 dc2 pm2 an2 cd2 ct2, a_check_tree_machine := f_check_tree_machine, d_check_tree_machine := PySem.W.fnOf "check_tree_machine" "check_tree_machine" (defArgs s_check_tree_machine) (defBody s_check_tree_machine) (defScope s_check_tree_machine) .none kV3 dc3 pm3 an3 cd3 ct3, a_check_tree := f_check_tree, d_check_tree := PySem.W.fnOf "check_tree" "check_tree" (defArgs s_check_tree) (defBody s_check_tree) (defScope s_check_tree) .none kV4 dc4 pm4 an4 cd4 ct4, a_state_of_tree := f_state_of_tree, d_state_of_tree := PySem.W.fnOf "state_of_tree" "state_of_tree" (defArgs s_state_of_tree) (defBody s_state_of_tree) (defScope s_state_of_tree) .none kV5 dc5 pm5 an5 cd5 ct5, a_output_of_tree := f_output_of_tree, d_output_of_tree := PySem.W.fnOf "output_of_tree" "output_of_tree" (defArgs s_output_of_tree) (defBody s_output_of_tree) (defScope s_output_of_tree) .none kV6 dc6 pm6 an6 cd6 ct6, a_states_of_trees := f_states_of_trees, d_states_of_trees := PySem.W.fnOf "states_of_trees" "states_of_trees" (defArgs s_states_of_trees) (defBody s_states_of_trees) (defScope s_states_of_trees) .none kV7 dc7 pm7 an7 cd7 ct7, a_law_numbers := f_law_numbers, d_law_numbers := PySem.W.fnOf "_law_numbers" "_law_numbers" (defArgs s_law_numbers) (defBody s_law_numbers) (defScope s_law_numbers) .none kV8 dc8 pm8 an8 cd8 ct8, a_law_ranks := f_law_ranks, d_law_ranks := PySem.W.fnOf "_law_ranks" "_law_ranks" (defArgs s_law_ranks) (defBody s_law_ranks) (defScope s_law_ranks) .none kV9 dc9 pm9 an9 cd9 ct9, a_law_tree_machine := f_law_tree_machine, d_law_tree_machine := PySem.W.fnOf "_law_tree_machine" "_law_tree_machine" (defArgs s_law_tree_machine) (defBody s_law_tree_machine) (defScope s_law_tree_machine) .none kV10 dc10 pm10 an10 cd10 ct10, a_law_rule := f_law_rule, d_law_rule := PySem.W.fnOf "_law_rule" "_law_rule" (defArgs s_law_rule) (defBody s_law_rule) (defScope s_law_rule) .none kV11 dc11 pm11 an11 cd11 ct11, a_law_state := f_law_state, d_law_state := PySem.W.fnOf "_law_state" "_law_state" (defArgs s_law_state) (defBody s_law_state) (defScope s_law_state) .none kV12 dc12 pm12 an12 cd12 ct12, a_law_drawn_tree := f_law_drawn_tree, d_law_drawn_tree := PySem.W.fnOf "_law_drawn_tree" "_law_drawn_tree" (defArgs s_law_drawn_tree) (defBody s_law_drawn_tree) (defScope s_law_drawn_tree) .none kV13 dc13 pm13 an13 cd13 ct13, a_law_bad := f_law_bad, d_law_bad := PySem.W.fnOf "_law_bad" "_law_bad" (defArgs s_law_bad) (defBody s_law_bad) (defScope s_law_bad) .none kV14 dc14 pm14 an14 cd14 ct14, a_law_refused := f_law_refused, d_law_refused := PySem.W.fnOf "_law_refused" "_law_refused" (defArgs s_law_refused) (defBody s_law_refused) (defScope s_law_refused) .none kV15 dc15 pm15 an15 cd15 ct15, a_law_seven := f_law_seven, d_law_seven := PySem.W.fnOf "_law_seven" "_law_seven" (defArgs s_law_seven) (defBody s_law_seven) (defScope s_law_seven) .none kV16 dc16 pm16 an16 cd16 ct16, a_law := fa, d_law := PySem.W.fnOf "law" "law" (defArgs s_law) (defBody s_law) (defScope s_law) .none kV17 dc17 pm17 an17 cd17 ct17 }, tc0, tp0, rfl, ?_, fun s v => .of_eq rfl, rfl, tab_are_below, tn_are_below⟩
  exact {
    g_MaieuticError := PySem.W.mg_of X G r_MaieuticError,
    x_MaieuticError := rx_MaieuticError,
    k_MaieuticError := rk_MaieuticError,
    sb_MaieuticError := rb_MaieuticError,
    ty_MaieuticError := rt_MaieuticError,
    E_MaieuticError := ⟨rga_MaieuticError, rgg_MaieuticError, rb_MaieuticError, rh_MaieuticError, rc_MaieuticError, ra1, ra2, rm_MaieuticError⟩,
    g_NotAllowed := PySem.W.mg_of X G r_NotAllowed,
    x_NotAllowed := rx_NotAllowed,
    k_NotAllowed := rk_NotAllowed,
    sb_NotAllowed := rb_NotAllowed,
    ty_NotAllowed := rt_NotAllowed,
    E_NotAllowed := ⟨rga_NotAllowed, rgg_NotAllowed, rb_NotAllowed, rh_NotAllowed, rc_NotAllowed, ra1, ra2, rm_NotAllowed⟩,
    g_Missing := PySem.W.mg_of X G r_Missing,
    x_Missing := rx_Missing,
    k_Missing := rk_Missing,
    sb_Missing := rb_Missing,
    ty_Missing := rt_Missing,
    E_Missing := ⟨rga_Missing, rgg_Missing, rb_Missing, rh_Missing, rc_Missing, ra1, ra2, rm_Missing⟩,
    su_MaieuticError_MaieuticError := rsu_MaieuticError_MaieuticError,
    su_MaieuticError_NotAllowed := rsu_MaieuticError_NotAllowed,
    su_MaieuticError_Missing := rsu_MaieuticError_Missing,
    su_NotAllowed_MaieuticError := rsu_NotAllowed_MaieuticError,
    su_NotAllowed_NotAllowed := rsu_NotAllowed_NotAllowed,
    su_NotAllowed_Missing := rsu_NotAllowed_Missing,
    su_Missing_MaieuticError := rsu_Missing_MaieuticError,
    su_Missing_NotAllowed := rsu_Missing_NotAllowed,
    su_Missing_Missing := rsu_Missing_Missing,
    sv_MaieuticError := rsv_MaieuticError,
    sv_NotAllowed := rsv_NotAllowed,
    sv_Missing := rsv_Missing,
    F_are_below := fun_mk (st := s_are_below) l_are_below cc_are_below kk_are_below,
    b_are_below := (fun_mk (st := s_are_below) l_are_below cc_are_below kk_are_below).binds (ps := ["numbers", "limit"]) fun _ _ _ _ _ _ us hl => match us, hl with | [_, _], _ => rfl,
    g_are_below := PySem.W.mg_of X G q_are_below,
    F_are_ranks := fun_mk (st := s_are_ranks) l_are_ranks cc_are_ranks kk_are_ranks,
    b_are_ranks := (fun_mk (st := s_are_ranks) l_are_ranks cc_are_ranks kk_are_ranks).binds (ps := ["ranks"]) fun _ _ _ _ _ _ us hl => match us, hl with | [_], _ => rfl,
    g_are_ranks := PySem.W.mg_of X G q_are_ranks,
    F_is_tree := fun_mk (st := s_is_tree) l_is_tree cc_is_tree kk_is_tree,
    b_is_tree := (fun_mk (st := s_is_tree) l_is_tree cc_is_tree kk_is_tree).binds (ps := ["ranks", "tree"]) fun _ _ _ _ _ _ us hl => match us, hl with | [_, _], _ => rfl,
    g_is_tree := PySem.W.mg_of X G q_is_tree,
    F_check_tree_machine := fun_mk (st := s_check_tree_machine) l_check_tree_machine cc_check_tree_machine kk_check_tree_machine,
    b_check_tree_machine := (fun_mk (st := s_check_tree_machine) l_check_tree_machine cc_check_tree_machine kk_check_tree_machine).binds (ps := ["machine"]) fun _ _ _ _ _ _ us hl => match us, hl with | [_], _ => rfl,
    g_check_tree_machine := PySem.W.mg_of X G q_check_tree_machine,
    F_check_tree := fun_mk (st := s_check_tree) l_check_tree cc_check_tree kk_check_tree,
    b_check_tree := (fun_mk (st := s_check_tree) l_check_tree cc_check_tree kk_check_tree).binds (ps := ["machine", "tree"]) fun _ _ _ _ _ _ us hl => match us, hl with | [_, _], _ => rfl,
    g_check_tree := PySem.W.mg_of X G q_check_tree,
    F_state_of_tree := fun_mk (st := s_state_of_tree) l_state_of_tree cc_state_of_tree kk_state_of_tree,
    b_state_of_tree := (fun_mk (st := s_state_of_tree) l_state_of_tree cc_state_of_tree kk_state_of_tree).binds (ps := ["machine", "tree"]) fun _ _ _ _ _ _ us hl => match us, hl with | [_, _], _ => rfl,
    g_state_of_tree := PySem.W.mg_of X G q_state_of_tree,
    F_output_of_tree := fun_mk (st := s_output_of_tree) l_output_of_tree cc_output_of_tree kk_output_of_tree,
    b_output_of_tree := (fun_mk (st := s_output_of_tree) l_output_of_tree cc_output_of_tree kk_output_of_tree).binds (ps := ["machine", "tree"]) fun _ _ _ _ _ _ us hl => match us, hl with | [_, _], _ => rfl,
    g_output_of_tree := PySem.W.mg_of X G q_output_of_tree,
    F_states_of_trees := fun_mk (st := s_states_of_trees) l_states_of_trees cc_states_of_trees kk_states_of_trees,
    b_states_of_trees := (fun_mk (st := s_states_of_trees) l_states_of_trees cc_states_of_trees kk_states_of_trees).binds (ps := ["machine", "symbols"]) fun _ _ _ _ _ _ us hl => match us, hl with | [_, _], _ => rfl,
    g_states_of_trees := PySem.W.mg_of X G q_states_of_trees,
    F_law_numbers := fun_mk (st := s_law_numbers) l_law_numbers cc_law_numbers kk_law_numbers,
    b_law_numbers := (fun_mk (st := s_law_numbers) l_law_numbers cc_law_numbers kk_law_numbers).binds (ps := ["script", "many"]) fun _ _ _ _ _ _ us hl => match us, hl with | [_, _], _ => rfl,
    g_law_numbers := PySem.W.mg_of X G q_law_numbers,
    F_law_ranks := fun_mk (st := s_law_ranks) l_law_ranks cc_law_ranks kk_law_ranks,
    b_law_ranks := (fun_mk (st := s_law_ranks) l_law_ranks cc_law_ranks kk_law_ranks).binds (ps := ["number"]) fun _ _ _ _ _ _ us hl => match us, hl with | [_], _ => rfl,
    g_law_ranks := PySem.W.mg_of X G q_law_ranks,
    F_law_tree_machine := fun_mk (st := s_law_tree_machine) l_law_tree_machine cc_law_tree_machine kk_law_tree_machine,
    b_law_tree_machine := (fun_mk (st := s_law_tree_machine) l_law_tree_machine cc_law_tree_machine kk_law_tree_machine).binds (ps := ["numbers", "ranks", "outs", "states"]) fun _ _ _ _ _ _ us hl => match us, hl with | [_, _, _, _], _ => rfl,
    g_law_tree_machine := PySem.W.mg_of X G q_law_tree_machine,
    F_law_rule := fun_mk (st := s_law_rule) l_law_rule cc_law_rule kk_law_rule,
    b_law_rule := (fun_mk (st := s_law_rule) l_law_rule cc_law_rule kk_law_rule).binds (ps := ["machine", "symbol", "kids"]) fun _ _ _ _ _ _ us hl => match us, hl with | [_, _, _], _ => rfl,
    g_law_rule := PySem.W.mg_of X G q_law_rule,
    F_law_state := fun_mk (st := s_law_state) l_law_state cc_law_state kk_law_state,
    b_law_state := (fun_mk (st := s_law_state) l_law_state cc_law_state kk_law_state).binds (ps := ["machine", "tree"]) fun _ _ _ _ _ _ us hl => match us, hl with | [_, _], _ => rfl,
    g_law_state := PySem.W.mg_of X G q_law_state,
    F_law_drawn_tree := fun_mk (st := s_law_drawn_tree) l_law_drawn_tree cc_law_drawn_tree kk_law_drawn_tree,
    b_law_drawn_tree := (fun_mk (st := s_law_drawn_tree) l_law_drawn_tree cc_law_drawn_tree kk_law_drawn_tree).binds (ps := ["ranks", "numbers", "most"]) fun _ _ _ _ _ _ us hl => match us, hl with | [_, _, _], _ => rfl,
    g_law_drawn_tree := PySem.W.mg_of X G q_law_drawn_tree,
    F_law_bad := fun_mk (st := s_law_bad) l_law_bad cc_law_bad kk_law_bad,
    b_law_bad := (fun_mk (st := s_law_bad) l_law_bad cc_law_bad kk_law_bad).binds (ps := ["machine", "number"]) fun _ _ _ _ _ _ us hl => match us, hl with | [_, _], _ => rfl,
    g_law_bad := PySem.W.mg_of X G q_law_bad,
    F_law_refused := fun_mk (st := s_law_refused) l_law_refused cc_law_refused kk_law_refused,
    b_law_refused := (fun_mk (st := s_law_refused) l_law_refused cc_law_refused kk_law_refused).binds (ps := ["machine"]) fun _ _ _ _ _ _ us hl => match us, hl with | [_], _ => rfl,
    g_law_refused := PySem.W.mg_of X G q_law_refused,
    F_law_seven := fun_mk (st := s_law_seven) l_law_seven cc_law_seven kk_law_seven,
    b_law_seven := (fun_mk (st := s_law_seven) l_law_seven cc_law_seven kk_law_seven).binds (ps := []) fun _ _ _ _ _ _ us hl => match us, hl with | [], _ => rfl,
    g_law_seven := PySem.W.mg_of X G q_law_seven,
    F_law := fun_mk (st := s_law) l_law cc_law kk_law,
    b_law := (fun_mk (st := s_law) l_law cc_law kk_law).binds (ps := ["script"]) fun _ _ _ _ _ _ us hl => match us, hl with | [_], _ => rfl,
    g_law := PySem.W.mg_of X G q_law,
    c_MAX_SYMBOLS := ⟨_, PySem.W.mg_of X G vv_MAX_SYMBOLS, vr_MAX_SYMBOLS⟩,
    c_MAX_RANK := ⟨_, PySem.W.mg_of X G vv_MAX_RANK, vr_MAX_RANK⟩,
    c_MAX_TREE_STATES := ⟨_, PySem.W.mg_of X G vv_MAX_TREE_STATES, vr_MAX_TREE_STATES⟩,
    c_MAX_TREE_OUTS := ⟨_, PySem.W.mg_of X G vv_MAX_TREE_OUTS, vr_MAX_TREE_OUTS⟩,
    c_MAX_NODES := ⟨_, PySem.W.mg_of X G vv_MAX_NODES, vr_MAX_NODES⟩,
    n_all := PySem.W.mg_none_of X G z_all,
    n_len := PySem.W.mg_none_of X G z_len,
    n_zip := PySem.W.mg_none_of X G z_zip,
    n_reversed := PySem.W.mg_none_of X G z_reversed,
    n_range := PySem.W.mg_none_of X G z_range,
    n_abs := PySem.W.mg_none_of X G z_abs,
    n_int := PySem.W.mg_none_of X G z_int,
    n_max := PySem.W.mg_none_of X G z_max,
    n_tuple := PySem.W.mg_none_of X G z_tuple,
    n_isinstance := PySem.W.mg_none_of X G z_isinstance,
    n_ValueError := PySem.W.mg_none_of X G z_ValueError,
    n_list := PySem.W.mg_none_of X G z_list,
    n_bool := PySem.W.mg_none_of X G z_bool }
theorem walk {l : PySem.W.OpenLaw} {q : Program} {loose : List Str} {XP : (Str → Option Value) → Heap → Prop} {YP : World → Heap → Prop} {d : DefRec} {K : Params → PySem.W.Frag} (hn : l.most = some 63) (hdf : d.params.defaults = [])
    (hrec : ((recsOf q).find? fun e => e.name == ("are_below" : Str)).isSome = true) (hY : ∀ (w : World) (h : Heap), YP w h → (K w.params).In h)
    (F : ∀ (w : World) (mg : Str → Option Value) (fa : Addr) (h : Heap), (K w.params).In h → h.Ns mainGlobals mg → mg d.name = some (.ref fa) →
      ∃ (A : Ads) (c Pt : Addr), A.a_law = fa ∧ Txt (K w.params) mg A ∧ (∀ (s : Shared) (v : Value), BindsTo s A.d_law ⟨[v], []⟩ [("script", v)]) ∧ A.d_are_below.code = .ref c ∧ PySem.W.tabIn (K w.params) "are_below" = some (c, Pt) ∧ (K w.params).lookup Pt = none) :
    PySem.W.WalkO q loose XP YP l.row.toRowW d [] (fun f vs => PySem.call f vs) := by
  refine Att.attach_callB hn hdf fun w s₀ s₁ mg mb fa o pm cd doc a vs ns G Y ho hd hcd hmg hobj hints hlen hbits hg => ?_
  have KX := hY w _ Y
  obtain ⟨A, c, Pt, rfl, T, hb, hc, ht, hnP⟩ := F w mg fa _ KX G.T.g hmg
  obtain ⟨e, he⟩ := Option.isSome_iff_exists.mp hrec
  obtain ⟨C, hP⟩ := PySem.W.tab_of G.T KX he ht
  refine LamX.law_callTs (CX := CX0) (k := 6) (cs := [(c, Pt)]) (fd := A.d_law) (x := "script") (sp := spLaw (K w.params) Pt) KX G.T.g G.T.b G.T.builtins G.T.nolimit hg (fun p hp => ?_) (fun p hp => ?_) (fun p hp => ?_) G.T.bmain hobj hints (Nat.le_trans hlen (by decide)) ⟨rfl, by decide, by decide⟩
    (fun base _ _ hT => ok_law T ⟨(hT _ List.mem_cons_self).code, (hT _ List.mem_cons_self).bm, (hT _ List.mem_cons_self).gP⟩ hc) hb (fun H hH hS => ⟨a, ns, rfl, hS, hlen, ⟨#[], hH _ List.mem_cons_self, ?_⟩, fun _ => rfl⟩) fun _ _ _ z => z
  · cases List.mem_singleton.mp hp
    exact hP
  · cases List.mem_singleton.mp hp
    exact hnP
  · cases List.mem_singleton.mp hp
    exact C
  · first | exact .nil | trivial | exact PySem.W.triplesOk_nil | exact fun _ h => absurd h (by simp)
end K61

set_option Elab.async false
open PySem PySem.W PyProof.Rows in
set_option maxRecDepth 100000 in
set_option maxHeartbeats 0 in
theorem PySem.Challenge.cw_maieutic_k61_tree_machines_run_holds : PySem.Challenge.rw_maieutic_k61_tree_machines_run.Holds := by
  w_on; o_law; k_head; (case hw => w_witness2)
  k_fill
  refine K61.walk (l := PySem.Challenge.rw_maieutic_k61_tree_machines_run) rfl rfl ?hrec (fun w h Y => PySem.W.kIn_of Y) ?F
  (case hrec => first | kernel_rfl | rfl | decide +kernel)
  case F =>
    intro w mg fa h KX G hmg
    refine' K61.all_mk KX G hmg ?r_MaieuticError ?rx_MaieuticError ?rk_MaieuticError ?rb_MaieuticError ?rt_MaieuticError ?rga_MaieuticError ?rgg_MaieuticError ?rh_MaieuticError ?rc_MaieuticError ?rm_MaieuticError ?r_NotAllowed ?rx_NotAllowed ?rk_NotAllowed ?rb_NotAllowed ?rt_NotAllowed ?rga_NotAllowed ?rgg_NotAllowed ?rh_NotAllowed ?rc_NotAllowed ?rm_NotAllowed ?r_Missing ?rx_Missing ?rk_Missing ?rb_Missing ?rt_Missing ?rga_Missing ?rgg_Missing ?rh_Missing ?rc_Missing ?rm_Missing ?ra1 ?ra2 ?rsu_MaieuticError_MaieuticError ?rsu_MaieuticError_NotAllowed ?rsu_MaieuticError_Missing ?rsu_NotAllowed_MaieuticError ?rsu_NotAllowed_NotAllowed ?rsu_NotAllowed_Missing ?rsu_Missing_MaieuticError ?rsu_Missing_NotAllowed ?rsu_Missing_Missing ?rsv_MaieuticError ?rsv_NotAllowed ?rsv_Missing ?q_are_below ?l_are_below ?cc_are_below ?tk_are_below ?tv_are_below ?tn_are_below ?kk_are_below ?q_are_ranks ?l_are_ranks ?cc_are_ranks ?kk_are_ranks ?q_is_tree ?l_is_tree ?cc_is_tree ?kk_is_tree ?q_check_tree_machine ?l_check_tree_machine ?cc_check_tree_machine ?kk_check_tree_machine ?q_check_tree ?l_check_tree ?cc_check_tree ?kk_check_tree ?q_state_of_tree ?l_state_of_tree ?cc_state_of_tree ?kk_state_of_tree ?q_output_of_tree ?l_output_of_tree ?cc_output_of_tree ?kk_output_of_tree ?q_states_of_trees ?l_states_of_trees ?cc_states_of_trees ?kk_states_of_trees ?q_law_numbers ?l_law_numbers ?cc_law_numbers ?kk_law_numbers ?q_law_ranks ?l_law_ranks ?cc_law_ranks ?kk_law_ranks ?q_law_tree_machine ?l_law_tree_machine ?cc_law_tree_machine ?kk_law_tree_machine ?q_law_rule ?l_law_rule ?cc_law_rule ?kk_law_rule ?q_law_state ?l_law_state ?cc_law_state ?kk_law_state ?q_law_drawn_tree ?l_law_drawn_tree ?cc_law_drawn_tree ?kk_law_drawn_tree ?q_law_bad ?l_law_bad ?cc_law_bad ?kk_law_bad ?q_law_refused ?l_law_refused ?cc_law_refused ?kk_law_refused ?q_law_seven ?l_law_seven ?cc_law_seven ?kk_law_seven ?q_law ?l_law ?cc_law ?kk_law ?vv_MAX_SYMBOLS ?vr_MAX_SYMBOLS ?vv_MAX_RANK ?vr_MAX_RANK ?vv_MAX_TREE_STATES ?vr_MAX_TREE_STATES ?vv_MAX_TREE_OUTS ?vr_MAX_TREE_OUTS ?vv_MAX_NODES ?vr_MAX_NODES ?z_all ?z_len ?z_zip ?z_reversed ?z_range ?z_abs ?z_int ?z_max ?z_tuple ?z_isinstance ?z_ValueError ?z_list ?z_bool
    (case r_MaieuticError => k_is)
    (case rx_MaieuticError => first | k_exc | k_is)
    (case rk_MaieuticError => k_is)
    (case rb_MaieuticError => k_is)
    (case rt_MaieuticError => k_is)
    (case rga_MaieuticError => k_is)
    (case rgg_MaieuticError => k_is)
    (case rh_MaieuticError => k_is)
    (case rc_MaieuticError => k_is)
    (case rm_MaieuticError => k_is)
    (case r_NotAllowed => k_is)
    (case rx_NotAllowed => first | k_exc | k_is)
    (case rk_NotAllowed => k_is)
    (case rb_NotAllowed => k_is)
    (case rt_NotAllowed => k_is)
    (case rga_NotAllowed => k_is)
    (case rgg_NotAllowed => k_is)
    (case rh_NotAllowed => k_is)
    (case rc_NotAllowed => k_is)
    (case rm_NotAllowed => k_is)
    (case r_Missing => k_is)
    (case rx_Missing => first | k_exc | k_is)
    (case rk_Missing => k_is)
    (case rb_Missing => k_is)
    (case rt_Missing => k_is)
    (case rga_Missing => k_is)
    (case rgg_Missing => k_is)
    (case rh_Missing => k_is)
    (case rc_Missing => k_is)
    (case rm_Missing => k_is)
    (case ra1 => k_is)
    (case ra2 => k_is)
    (case rsu_MaieuticError_MaieuticError => k_is)
    (case rsu_MaieuticError_NotAllowed => k_is)
    (case rsu_MaieuticError_Missing => k_is)
    (case rsu_NotAllowed_MaieuticError => k_is)
    (case rsu_NotAllowed_NotAllowed => k_is)
    (case rsu_NotAllowed_Missing => k_is)
    (case rsu_Missing_MaieuticError => k_is)
    (case rsu_Missing_NotAllowed => k_is)
    (case rsu_Missing_Missing => k_is)
    (case rsv_MaieuticError => k_is)
    (case rsv_NotAllowed => k_is)
    (case rsv_Missing => k_is)
    (case q_are_below => k_is)
    (case l_are_below => k_is)
    (case cc_are_below => k_is)
    (case tk_are_below => k_is)
    (case tv_are_below => rfl)
    (case tn_are_below => kernel_rfl)
    (case kk_are_below => k_is)
    (case q_are_ranks => k_is)
    (case l_are_ranks => k_is)
    (case cc_are_ranks => k_is)
    (case kk_are_ranks => k_is)
    (case q_is_tree => k_is)
    (case l_is_tree => k_is)
    (case cc_is_tree => k_is)
    (case kk_is_tree => k_is)
    (case q_check_tree_machine => k_is)
    (case l_check_tree_machine => k_is)
    (case cc_check_tree_machine => k_is)
    (case kk_check_tree_machine => k_is)
    (case q_check_tree => k_is)
    (case l_check_tree => k_is)
    (case cc_check_tree => k_is)
    (case kk_check_tree => k_is)
    (case q_state_of_tree => k_is)
    (case l_state_of_tree => k_is)
    (case cc_state_of_tree => k_is)
    (case kk_state_of_tree => k_is)
    (case q_output_of_tree => k_is)
    (case l_output_of_tree => k_is)
    (case cc_output_of_tree => k_is)
    (case kk_output_of_tree => k_is)
    (case q_states_of_trees => k_is)
    (case l_states_of_trees => k_is)
    (case cc_states_of_trees => k_is)
    (case kk_states_of_trees => k_is)
    (case q_law_numbers => k_is)
    (case l_law_numbers => k_is)
    (case cc_law_numbers => k_is)
    (case kk_law_numbers => k_is)
    (case q_law_ranks => k_is)
    (case l_law_ranks => k_is)
    (case cc_law_ranks => k_is)
    (case kk_law_ranks => k_is)
    (case q_law_tree_machine => k_is)
    (case l_law_tree_machine => k_is)
    (case cc_law_tree_machine => k_is)
    (case kk_law_tree_machine => k_is)
    (case q_law_rule => k_is)
    (case l_law_rule => k_is)
    (case cc_law_rule => k_is)
    (case kk_law_rule => k_is)
    (case q_law_state => k_is)
    (case l_law_state => k_is)
    (case cc_law_state => k_is)
    (case kk_law_state => k_is)
    (case q_law_drawn_tree => k_is)
    (case l_law_drawn_tree => k_is)
    (case cc_law_drawn_tree => k_is)
    (case kk_law_drawn_tree => k_is)
    (case q_law_bad => k_is)
    (case l_law_bad => k_is)
    (case cc_law_bad => k_is)
    (case kk_law_bad => k_is)
    (case q_law_refused => k_is)
    (case l_law_refused => k_is)
    (case cc_law_refused => k_is)
    (case kk_law_refused => k_is)
    (case q_law_seven => k_is)
    (case l_law_seven => k_is)
    (case cc_law_seven => k_is)
    (case kk_law_seven => k_is)
    (case q_law => k_is)
    (case l_law => k_is)
    (case cc_law => k_is)
    (case kk_law => k_is)
    (case vv_MAX_SYMBOLS => k_is)
    (case vr_MAX_SYMBOLS => first | rfl | exact ⟨_, rfl⟩)
    (case vv_MAX_RANK => k_is)
    (case vr_MAX_RANK => first | rfl | exact ⟨_, rfl⟩)
    (case vv_MAX_TREE_STATES => k_is)
    (case vr_MAX_TREE_STATES => first | rfl | exact ⟨_, rfl⟩)
    (case vv_MAX_TREE_OUTS => k_is)
    (case vr_MAX_TREE_OUTS => first | rfl | exact ⟨_, rfl⟩)
    (case vv_MAX_NODES => k_is)
    (case vr_MAX_NODES => first | rfl | exact ⟨_, rfl⟩)
    (case z_all => k_is)
    (case z_len => k_is)
    (case z_zip => k_is)
    (case z_reversed => k_is)
    (case z_range => k_is)
    (case z_abs => k_is)
    (case z_int => k_is)
    (case z_max => k_is)
    (case z_tuple => k_is)
    (case z_isinstance => k_is)
    (case z_ValueError => k_is)
    (case z_list => k_is)
    (case z_bool => k_is)
