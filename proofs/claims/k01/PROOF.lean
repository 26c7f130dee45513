import PyProof.Rows.All
import Wide.All
import OpenK.AllK
import Wide.FinOn
import HandS.ForMost
import HandS.Wide
import HandS.IsInst
import HandS.Defaults
import HandS.Codes
import HandS.Style
import PyProof.ReprRoads
import PyProof.ReprLen
import HandS.Zip
import HandS.NoneIn
import HandS.TupAny
import HandS.Steps
import HandS.More
import PySem.Challenge.RW_unlikepairs_k01_kinds_sequences_states
set_option Elab.async false
set_option linter.all false
set_option maxRecDepth 100000
set_option maxHeartbeats 4000000
namespace UP
open PySem PySem.Spec PyProof.Rows L2

/-! ### a def that keeps a promise, by its name -/
section
variable (P : Program) (w : World) (K : PySem.W.Frag) (mg : Str → Option Value) (base : Heap)
def Has (k : Nat) (x : Str) (ps : List Str) (sp : Sp) : Prop :=
  ∃ f fd, mg x = some (.ref f) ∧ PySem.W.keepIn K (.ref f) = true ∧ Binds K fd ps [] ∧ FnOk P w K mg base CX0 k f fd ps sp
def Df (x : Str) (st : Stmt) : Prop := ∃ f fd, mg x = some (.ref f) ∧ Fun K x x st f fd
end
theorem Df.of {K : PySem.W.Frag} {mg : Str → Option Value} {x : Str} {st : Stmt} {f : Addr} {fd : FuncData} (g : mg x = some (.ref f)) (F : Fun K x x st f fd) : Df K mg x st := ⟨f, fd, g, F⟩
section
variable {P : Program} {w : World} {K : PySem.W.Frag} {mg : Str → Option Value} {base : Heap}
theorem has_of {x : Str} {st : Stmt} {ps N : List Str} {k : Nat} {sp : Sp} (D : Df K mg x st) (S : FnScope N ps (defScope st))
    (hb : ∀ (kV doc pm : Value) (an : Option Addr) (cdv ct : Value) (us : List Value), us.length = ps.length → bindArgs (PySem.W.fnOf x x (defArgs st) (defBody st) (defScope st) .none kV doc pm an cdv ct) ⟨us, []⟩ = pure (ps.zip us))
    (len : ∀ vs H Q E, sp vs H Q E → vs.length = ps.length)
    (body : ∀ (f : Addr) (cdv : Value) (A : Around) (outer : List Env) (s : Shared) (H : Hp) (vs : List V) (Q : VK) (E : XK), Room k (A.deeper (envOfC x (defScope st) s.heap.objs.size f cdv)) → sp vs H Q E →
      ∃ t, PSs (cxOf CX0 P w K mg base N x (defScope st) f cdv A outer s H E).nox (defBody st) t ∧ t { nx := fun _ H' => Q .non H', rt := Q } (start N vs) H) :
    Has P w K mg base (k + 1) x ps sp := by
  obtain ⟨f, fd, g, F⟩ := D
  exact ⟨f, fd, g, F.kp, F.binds hb, F.ok S len fun cdv A outer s H vs Q E hr h => body f cdv A outer s H vs Q E hr h⟩
theorem Has.weak {x : Str} {ps : List Str} {k : Nat} {sp sp' : Sp} (h : Has P w K mg base k x ps sp) (e : sp = sp') : Has P w K mg base k x ps sp' := e ▸ h
end
section
variable {X : Cx}
theorem pe_callH {k : Nat} {x : Str} {ps : List Str} {sp : Sp} {p pos : Pos} {e : Expr} {es : List Expr} {t : TA} (G : Has X.prog X.w X.K X.mg X.base k x ps sp) (hr : Room k X.A) (hg : Gl X x) (ha : PA X (e :: es) t)
    (hdb : (x == ("__debug__" : Str)) = false := by decide) (he : starEach (e :: es) X.env = (false, eval e X.env) :: starEach es X.env := by rfl) (hpl : (backTo pos (starEach es X.env)).any (·.1) = false := by rfl) :
    PE X (.Call (.Name x p) (e :: es) [] pos) (tCall sp [] E0 t) := by
  obtain ⟨f, fd, g, kp, b, F⟩ := G
  exact pe_call F hr hg g kp b .nil pass0 ha hdb he hpl
theorem pe_glI {x : Str} {i : Int} {pos : Pos} (h : ∃ t, X.mg x = some (.int i t)) (hg : Gl X x) (hd : (x == ("__debug__" : Str)) = false := by decide) : PE X (.Name x pos) (tC (.int i)) := by
  obtain ⟨t, h⟩ := h
  exact pe_glob hg h ⟨t, rfl⟩ hd
end

/-! ### heaps -/
theorem same_upd {H : Hp} {p : Addr} {o : HO} (h : H p = none) : Same H (upd H p o) := fun b x e => by
  rw [upd_ne (ne_of_none e h)]
  exact e
/-- all but the object at sp is as it was -/
def But (sp : Addr) (H H' : Hp) : Prop := ∀ b o, b ≠ sp → H b = some o → H' b = some o
theorem Same.but {sp : Addr} {H H' : Hp} (h : Same H H') : But sp H H' := fun b o _ e => h b o e
theorem But.trans {sp : Addr} {H H1 H2 : Hp} (a : But sp H H1) (b : But sp H1 H2) : But sp H H2 := fun c o n e => b c o n (a c o n e)
theorem But.refl {sp : Addr} {H : Hp} : But sp H H := fun _ _ _ e => e
theorem but_upd {sp : Addr} {H : Hp} {o : HO} : But sp H (upd H sp o) := fun b x n e => by
  rw [upd_ne n]
  exact e
theorem small {n : Nat} (h : n ≤ 1000000) : n < sizeLine := Nat.lt_of_le_of_lt h (by decide)
theorem smallE {n : Nat} (h : n ≤ 1000000) : n ≤ sizeLine := Nat.le_of_lt (small h)

/-! ### runs and states -/
abbrev Run := Str × Int
def RunV (H : Hp) (v : V) (r : Run) : Prop := ∃ t, v = .ref t ∧ H t = some (.tup [.str r.1, .int r.2])
def Runs (H : Hp) (a : Addr) (rs : List Run) : Prop := ∃ xs, H a = some (.lst xs) ∧ Paired (RunV H) xs rs
def StV (H : Hp) (v : V) : Option Run → Prop
  | none => v = .non
  | some r => RunV H v r
theorem RunV.same {H H' : Hp} {v : V} {r : Run} (s : Same H H') (h : RunV H v r) : RunV H' v r := by
  obtain ⟨t, e, h⟩ := h
  exact ⟨t, e, s _ _ h⟩
theorem Paired.len {α β : Type} {F : α → β → Prop} : ∀ {l₁ : List α} {l₂ : List β}, Paired F l₁ l₂ → l₁.length = l₂.length
  | _, _, .nil => rfl
  | _, _, .cons _ t => congrArg Nat.succ (Paired.len t)
theorem Paired.at {α β : Type} {F : α → β → Prop} : ∀ {l₁ : List α} {l₂ : List β} {i : Nat} {x : α}, Paired F l₁ l₂ → l₁[i]? = some x → ∃ y, l₂[i]? = some y ∧ F x y
  | _, _, _, _, .nil, h => by simp at h
  | _, _, 0, _, .cons h _, e => by
    simp only [List.getElem?_cons_zero, Option.some.injEq] at e
    subst e
    exact ⟨_, by simp, h⟩
  | _, _, i + 1, _, .cons _ t, e => by
    simp only [List.getElem?_cons_succ] at e ⊢
    exact Paired.at t e
theorem Paired.at' {α β : Type} {F : α → β → Prop} : ∀ {l₁ : List α} {l₂ : List β} {i : Nat} {y : β}, Paired F l₁ l₂ → l₂[i]? = some y → ∃ x, l₁[i]? = some x ∧ F x y
  | _, _, _, _, .nil, h => by simp at h
  | _, _, 0, _, .cons h _, e => by
    simp only [List.getElem?_cons_zero, Option.some.injEq] at e
    subst e
    exact ⟨_, by simp, h⟩
  | _, _, i + 1, _, .cons _ t, e => by
    simp only [List.getElem?_cons_succ] at e ⊢
    exact Paired.at' t e
theorem Paired.imp {α β : Type} {F G : α → β → Prop} (f : ∀ a b, F a b → G a b) : ∀ {l₁ : List α} {l₂ : List β}, Paired F l₁ l₂ → Paired G l₁ l₂
  | _, _, .nil => .nil
  | _, _, .cons h t => .cons (f _ _ h) (Paired.imp f t)
theorem Paired.app {α β : Type} {F : α → β → Prop} : ∀ {l₁ m₁ : List α} {l₂ m₂ : List β}, Paired F l₁ l₂ → Paired F m₁ m₂ → Paired F (l₁ ++ m₁) (l₂ ++ m₂)
  | _, _, _, _, .nil, h => h
  | _, _, _, _, .cons h t, k => .cons h (Paired.app t k)
theorem Paired.dropp {α β : Type} {F : α → β → Prop} : ∀ {l₁ : List α} {l₂ : List β} (n : Nat), Paired F l₁ l₂ → Paired F (l₁.drop n) (l₂.drop n)
  | _, _, 0, h => h
  | _, _, n + 1, .nil => .nil
  | _, _, n + 1, .cons _ t => by
    simp only [List.drop_succ_cons]
    exact Paired.dropp n t
theorem Paired.takep {α β : Type} {F : α → β → Prop} : ∀ {l₁ : List α} {l₂ : List β} (n : Nat), Paired F l₁ l₂ → Paired F (l₁.take n) (l₂.take n)
  | _, _, 0, h => by simp only [List.take_zero]; exact .nil
  | _, _, n + 1, .nil => .nil
  | _, _, n + 1, .cons h t => by
    simp only [List.take_succ_cons]
    exact .cons h (Paired.takep n t)
theorem Runs.same {H H' : Hp} {a : Addr} {rs : List Run} (s : Same H H') (h : Runs H a rs) : Runs H' a rs := by
  obtain ⟨xs, e, p⟩ := h
  exact ⟨xs, s _ _ e, Paired.imp (fun _ _ => RunV.same s) p⟩
theorem StV.same {H H' : Hp} {v : V} {st : Option Run} (s : Same H H') (h : StV H v st) : StV H' v st := by
  cases st with
  | none => exact h
  | some r => exact RunV.same s h
/-- the spring: a list of three ints -/
def Spr (H : Hp) (sp : Addr) : Prop := ∃ d s c : Int, H sp = some (.lst [.int d, .int s, .int c]) ∧ 0 ≤ d ∧ d.natAbs < 2 ^ 20000 ∧ 0 ≤ s ∧ s < 2305843009213693951
theorem RunV.but {H H' : Hp} {sp : Addr} {v : V} {r : Run} (z : Spr H sp) (s : But sp H H') (h : RunV H v r) : RunV H' v r := by
  obtain ⟨t, e, h⟩ := h
  obtain ⟨_, _, _, hs, _⟩ := z
  exact ⟨t, e, s _ _ (ne_of h hs (by intro q; cases q)) h⟩
theorem Runs.ne {H : Hp} {sp a : Addr} {rs : List Run} (z : Spr H sp) (h : Runs H a rs) : a ≠ sp := by
  obtain ⟨xs, e, p⟩ := h
  obtain ⟨d, s, c, hs, _⟩ := z
  refine ne_of e hs fun q => ?_
  have q := HO.lst.inj q
  subst q
  cases p with
  | cons h _ =>
    obtain ⟨t, e, _⟩ := h
    cases e
theorem Runs.but {H H' : Hp} {sp a : Addr} {rs : List Run} (z : Spr H sp) (s : But sp H H') (h : Runs H a rs) : Runs H' a rs := by
  have n := Runs.ne z h
  obtain ⟨xs, e, p⟩ := h
  exact ⟨xs, s _ _ n e, Paired.imp (fun _ _ => RunV.but z s) p⟩
theorem StV.but {H H' : Hp} {sp : Addr} {v : V} {st : Option Run} (z : Spr H sp) (s : But sp H H') (h : StV H v st) : StV H' v st := by
  cases st with
  | none => exact h
  | some r => exact RunV.but z s h
theorem Spr.same {H H' : Hp} {sp : Addr} (z : Spr H sp) (s : Same H H') : Spr H' sp := by
  obtain ⟨d, e, c, hs, r⟩ := z
  exact ⟨d, e, c, s _ _ hs, r⟩
def KindOk (s : Str) : Prop := 1 ≤ s.length ∧ s.length ≤ 8 ∧ ∀ c ∈ s.cps.toList, 97 ≤ c ∧ c ≤ 122
def RunOk (r : Run) : Prop := KindOk r.1 ∧ 1 ≤ r.2 ∧ r.2 ≤ 1000000000000000000000000000000
def Alt (rs : List Run) : Prop := ∀ (i : Nat) (x y : Run), rs[i]? = some x → rs[i + 1]? = some y → x.1 ≠ y.1
def SeqOk (rs : List Run) : Prop := rs.length ≤ 400 ∧ (∀ r ∈ rs, RunOk r) ∧ Alt rs
end UP

set_option Elab.async false
set_option linter.all false
set_option maxRecDepth 100000
set_option maxHeartbeats 4000000
namespace UP
open PySem PySem.Spec PyProof.Rows L2
/-! ### repr of plain data, where no other repr is under way -/
def rRepr (K : PySem.W.Frag) : List V → Hp → VK → Prop := fun xs H Q => ∃ (a : Addr) (d : PyData), xs = [.ref a] ∧ Dp K H (.ref a) d ∧ d.showable = true ∧ SeqAt.shaped d = true ∧ d.shown.length ≤ sizeLine ∧ Q (.str d.shown) H
theorem call_reprD {X : Cx} (hg : X.A.guards = some []) (hu : X.A.units + 70 < cLine) : CallR X (.builtin "repr") (rRepr X.K) := by
  intro pins s σ H xs us Q I r h
  obtain ⟨a, d, rfl, dp, sh, sp, sz, q⟩ := h
  obtain ⟨u, rfl, ru⟩ := vals1 r
  cases (show u = Value.ref a from ru)
  obtain ⟨as, rd⟩ := Dp.reads I d (.ref a) (.ref a) dp rfl
  have dd := SeqAt.depth_of_shaped sp
  refine repr_of_reads' rd sh (PyData.noDict_hsm (PyData.hasDict_of_canLay d (SeqAt.canLay_of_shaped sp))) hg (by omega) (fun _ _ e => e) (fun h' u tk hk => ?_) sz
  exact ⟨.str d.shown, H, I.kept (t' := tk) hk, ⟨u, rfl⟩, q⟩
/-! ### the law's own call, around it nothing -/
structure FnC (P : Program) (w : World) (K : PySem.W.Frag) (mg : Str → Option Value) (base : Heap) (f : Addr) (fd : FuncData) (ps : List Str) (sp : Sp) : Prop where
  go : ∀ (out : List Env) (s : Shared) (H : Hp) (args : Args) (us : List Value) (vs : List V) (Q : VK) (E : XK), Env0 P w K mg base callerA out s H → BindsTo s fd args (ps.zip us) → Vals vs us → sp vs H Q E →
    codeAny (model P w) callerA (.call (.ref f) args) (CR CX0 out P w H s Q E) s
theorem callerA_room : Room 8 callerA := ⟨rfl, by decide, by decide⟩
section
variable {P : Program} {w : World} {K : PySem.W.Frag} {mg : Str → Option Value} {base : Heap}
theorem fnC_of {x : Str} {st : Stmt} {f : Addr} {fd : FuncData} {ps N : List Str} {sp : Sp} (F : Fun K x x st f fd) (S : FnScope N ps (defScope st)) (len : ∀ vs H Q E, sp vs H Q E → vs.length = ps.length)
    (body : ∀ (cdv : Value) (out : List Env) (s : Shared) (H : Hp) (vs : List V) (Q : VK) (E : XK), Room 7 (callerA.deeper (envOfC x (defScope st) s.heap.objs.size f cdv)) → sp vs H Q E →
      ∃ t, PSs (cxOf CX0 P w K mg base N x (defScope st) f cdv callerA out s H E).nox (defBody st) t ∧ t { nx := fun _ H' => Q .non H', rt := Q } (start N vs) H) : FnC P w K mg base f fd ps sp := by
  obtain ⟨oc, od, kV, doc, pm, an, cdv, ct, osl, rfl, lk, hcd⟩ := F.ex
  refine ⟨fun out s H args us vs Q E e0 hb rv hsp => ?_⟩
  have inS : K.In s.heap := e0.mod.kin.keeps fun b o z => (e0.bs b o z).1
  have noL : s.heap.NoLimit := e0.mod.nolimit.keeps fun b o z => (e0.bs b o z).1
  have kinds : ∀ y ∈ ps.zip us, (defScope st).names.lookup y.1 = some .local ∨ ((defScope st).names.lookup y.1 = some .cell ∧ ((cellsFrom (s.heap.objs.size + 1) (defScope st).names []).lookup y.1).isSome = true) := by
    intro y hy
    rcases S.par y.1 (List.of_mem_zip (a := y.1) (b := y.2) hy).1 with z | z
    · exact Or.inl z
    · exact Or.inr ⟨z, PySem.W.cellsFrom_some _ _ _ (Or.inl z)⟩
  refine codeAny_call_function callerA_room.depth (inS _ _ lk) rfl S.co S.gen rfl (PySem.W.codeRec_of inS hcd) (hb _ _ _ _ ?_)
  refine wpAny_newFunctionEnv_cells S.kind kinds fun env he s1 inC => ?_
  subst he
  refine ⟨noL.keeps inC.toInCall.keep, codeAny_func ?_⟩
  obtain ⟨t, ht0, hq⟩ := body cdv out s H vs Q E (callerA_room.deeper _) hsp
  have ht := PSs.nox ht0
  have I0 : Inv (cxOf CX0 P w K mg base N x (defScope st) f cdv callerA out s H E) [] (start N vs) H s1 := inv_start S rfl e0 (len _ _ _ _ hsp) rv inC
  refine wpAny_mono (ht.run [] s1 (start N vs) H _ I0 hq) (fun fl s2 h2 => ?_) fun _ _ z => z
  cases fl with
  | next =>
    obtain ⟨σ2, H2, J, q2⟩ := h2
    exact ⟨V.non, H2, J.os, J.bare, J.base, J.hok, rfl, q2⟩
  | ret u =>
    obtain ⟨v, σ2, H2, J, rv2, q2⟩ := h2
    exact ⟨v, H2, J.os, J.bare, J.base, J.hok, rv2, q2⟩
  | brk =>
    obtain ⟨_, _, _, z⟩ := h2
    exact z.elim
  | cont =>
    obtain ⟨_, _, _, z⟩ := h2
    exact z.elim
end
/-- the heap that holds the script alone, locked -/
def oneH (a : Addr) (o : Obj) (xs : List V) : Hp := fun b => if b = a then some (.frz o (.lst xs)) else none
theorem run_law {P : Program} {w : World} {K : PySem.W.Frag} {mg mb : Str → Option Value} {fa a : Addr} {fd : FuncData} {x : Str} {sp : Sp} {s : Shared} {vs : List Value} {ns : List Int}
    (kx : K.In s.heap) (gns : s.heap.Ns mainGlobals mg) (bns : s.heap.Ns builtinsNs mb) (bb : ∀ y : Str, y ≠ "__name__" → mb y = bootBuiltins y) (nl : s.heap.NoLimit) (gens : s.gens = #[])
    (ob : s.heap.get? a = some { cls := .type "list", data := .seq vs.toArray }) (hin : IntsAre vs ns) (len : ns.length ≤ sizeLine) (F : ∀ base : Heap, K.In base → base.Ns mainGlobals mg → FnC P w K mg base fa fd [x] sp)
    (bind : ∀ (s : Shared) (u : Value), BindsTo s fd ⟨[u], []⟩ [(x, u)]) (hsp : ∀ H : Hp, SqL K H a (ns.map V.int) → sp [.ref a] H (fun v _ => v = .bl true) fun _ _ _ => False) :
    codeAny (model P w) callerA (.call (.ref fa) ⟨[.ref a], []⟩) (fun r s' => r = .ok (.ret (.bool true)) ∧ OldK s.heap s'.heap ∧ s'.os = s.os ∧ AllBare s'.gens) s := by
  have rel := vals_ints hin
  have step : ∀ H : Hp, (H = (fun _ => none) ∨ (H = oneH a { cls := .type "list", data := .seq vs.toArray } (ns.map V.int) ∧ K.lookup a = none)) → SqL K H a (ns.map V.int) → HOk P w H s.heap →
      codeAny (model P w) callerA (.call (.ref fa) ⟨[.ref a], []⟩) (fun r s' => r = .ok (.ret (.bool true)) ∧ OldK s.heap s'.heap ∧ s'.os = s.os ∧ AllBare s'.gens) s := by
    intro H hH hS hok
    have only : ∀ b u, H b = some u → b = a ∧ u = .frz { cls := .type "list", data := .seq vs.toArray } (.lst (ns.map V.int)) ∧ K.lookup a = none := by
      intro b u e
      rcases hH with z | ⟨z, z2⟩
      · rw [z] at e
        cases e
      · rw [z] at e
        by_cases hb : b = a
        · have e := (if_pos hb).symm.trans e
          cases e
          exact ⟨hb, rfl, z2⟩
        · have e := (if_neg hb).symm.trans e
          cases e
    have free : ∀ {b : Addr} {o : Obj}, s.heap.get? b = some o → (b = a → False) → (hidT s.heap H).get? b = some o := by
      intro b o e n
      refine hidT_get e ?_
      cases q : H b with
      | none => rfl
      | some u => exact (n (only b u q).1).elim
    have nss : ∀ {b : Addr} {m : Str → Option Value}, s.heap.Ns b m → (hidT s.heap H).Ns b m := by
      intro b m ⟨o, es, ep, e, d, r⟩
      refine ⟨o, es, ep, free e fun z => ?_, d, r⟩
      subst z
      rw [ob] at e
      cases e
      cases d
    have kb : K.In (hidT s.heap H) := by
      intro b o e
      refine hidT_get (kx b o e) ?_
      cases q : H b with
      | none => rfl
      | some u =>
        obtain ⟨z1, _, z2⟩ := only b u q
        rw [z1, z2] at e
        cases e
    have md : Mod K mg (hidT s.heap H) := ⟨kb, nss gns, ⟨mb, nss bns, bb⟩, by obtain ⟨mc, h1, h2⟩ := nl; exact ⟨mc, nss h1, h2⟩⟩
    have env : Env0 P w K mg (hidT s.heap H) callerA [] s H := ⟨rfl, md, fun b o e => of_hidT e, Nat.le_of_eq (hidT_size _ _), trivial, (fun b hb => by cases hb), hok, .of_eq gens⟩
    refine codeAny_mono ((F _ kb (nss gns)).go [] s H ⟨[.ref a], []⟩ [.ref a] [.ref a] _ _ env (bind s (.ref a)) (.cons rfl .nil) (hsp H hS)) fun r s' h => ?_
    cases r with
    | error e => exact h.elim
    | ok fl =>
      cases fl with
      | next => exact h.elim
      | brk => exact h.elim
      | cont => exact h.elim
      | ret u =>
        obtain ⟨v, H', o1, o2, un, hok', rv, q⟩ := h
        have q : v = .bl true := q
        subst q
        cases (show u = Value.bool true from rv)
        refine ⟨rfl, OldK.of_keep fun b o e => ?_, o1, o2⟩
        cases q : H b with
        | none => exact un.keep b o e q (fun z => by cases z) (fun z => by cases z)
        | some u =>
          obtain ⟨_, z, _⟩ := only b u q
          subst z
          obtain ⟨e1, _⟩ := hok b _ q
          obtain ⟨e2, _⟩ := hok' b _ (un.frzs b _ _ q)
          rw [e] at e1
          cases e1
          exact e2
  cases hk : K.lookup a with
  | some o =>
    have e := kx a o hk
    rw [ob] at e
    cases e
    refine step (fun _ => none) (.inl rfl) (.inr ⟨_, vs.toArray, _, hk, rfl, rfl, rfl, ?_, by simpa using rel⟩) fun b u z => by cases z
    rw [List.size_toArray, hin.length]
    exact len
  | none =>
    have at_a : oneH a { cls := .type "list", data := .seq vs.toArray } (ns.map V.int) a = some (.frz { cls := .type "list", data := .seq vs.toArray } (.lst (ns.map V.int))) := if_pos rfl
    refine step _ (.inr ⟨rfl, hk⟩) (.inl (.inr ⟨_, at_a⟩)) fun b u z => ?_
    by_cases hb : b = a
    · subst hb
      rw [at_a] at z
      cases z
      exact ⟨ob, by rw [List.length_map]; exact len, vs, _, rel, ob⟩
    · have z := (if_neg hb).symm.trans z
      cases z
theorem walkC {l : PySem.W.OpenLaw} {n : Nat} {q : Program} {loose : List Str} {XP : (Str → Option Value) → Heap → Prop} {YP : World → Heap → Prop} {d : DefRec} {K : Params → PySem.W.Frag} {sp : World → Sp} {x : Str}
    (hn : l.most = some n) (n2 : n ≤ sizeLine) (df : d.params.defaults = []) (hY : ∀ (w : World) (h : Heap), YP w h → (K w.params).In h)
    (F : ∀ (w : World) (mg : Str → Option Value) (fa : Addr) (h : Heap), (K w.params).In h → h.Ns mainGlobals mg → mg d.name = some (.ref fa) →
      ∃ fd : FuncData, (∀ (s : Shared) (u : Value), BindsTo s fd ⟨[u], []⟩ [(x, u)]) ∧ ∀ base : Heap, (K w.params).In base → base.Ns mainGlobals mg → FnC l.prog w (K w.params) mg base fa fd [x] (sp w))
    (hsp : ∀ (w : World) (H : Hp) (a : Addr) (ns : List Int), ns.length ≤ n → SqL (K w.params) H a (ns.map V.int) → sp w [.ref a] H (fun v _ => v = .bl true) fun _ _ _ => False) :
    PySem.W.WalkO q loose XP YP l.row.toRowW d [] (fun f vs => PySem.call f vs) := by
  refine Att.attach_call hn df fun w s₀ s mg mb fa o pm cd doc a vs ns G Y ho hd hcd hmg hobj hints hlen hg => ?_
  have kx := hY w _ Y
  obtain ⟨fd, hb, hF⟩ := F w mg fa _ kx G.T.g hmg
  exact run_law kx G.T.g G.T.b G.T.builtins G.T.nolimit hg hobj hints (Nat.le_trans hlen n2) hF hb fun H hS => hsp w H a ns hlen hS
end UP

set_option Elab.async false
set_option linter.all false
set_option maxRecDepth 100000
set_option maxHeartbeats 4000000
namespace UP
open PySem PySem.Spec PyProof.Rows L2
/-! ### lists or tuples -/
def Sq2 (H : Hp) (a : Addr) (xs : List V) : Prop := H a = some (.lst xs) ∨ H a = some (.tup xs)
theorem Sq2.same {H H' : Hp} {a : Addr} {xs : List V} (s : Same H H') (h : Sq2 H a xs) : Sq2 H' a xs := h.elim (fun z => .inl (s _ _ z)) (fun z => .inr (s _ _ z))
/-- a walk over the items xs, from the heap H on -/
structure Wk (J : It) (H : Hp) (xs : List V) : Prop where
  go : ∀ i H', Same H H' → i < xs.length → J.go i H'
  stop : ∀ H', Same H H' → J.stop xs.length H'
  yld : ∀ i x H' H'', Same H H' → J.yld i H' x H'' → H'' = H' ∧ xs[i]? = some x
theorem wk_list {K : PySem.W.Frag} {H : Hp} {a : Addr} {xs : List V} (h : H a = some (.lst xs)) : Wk (Itl K a) H xs :=
  ⟨fun i H' s hi => ⟨xs, xs[i], .of (s _ _ h), List.getElem?_eq_getElem hi⟩, fun H' s => ⟨xs, .of (s _ _ h), Nat.le_refl _⟩, fun i x H' H'' s y => ⟨y.1, y.2 xs (.of (s _ _ h))⟩⟩
theorem wk_tup {K : PySem.W.Frag} {H : Hp} {a : Addr} {xs : List V} (h : H a = some (.tup xs)) : Wk (Itt K a) H xs :=
  ⟨fun i H' s hi => ⟨xs, xs[i], .of (s _ _ h), List.getElem?_eq_getElem hi⟩, fun H' s => ⟨xs, .of (s _ _ h), Nat.le_refl _⟩, fun i x H' H'' s y => ⟨y.1, y.2 xs (.of (s _ _ h))⟩⟩
def iSeqV (i : Nat) : TI := fun σ H R => ∃ a xs, σ[i]? = some (some (.ref a)) ∧ Sq2 H a xs ∧ ∀ J, Wk J H xs → R J H
section
variable {X : Cx}
theorem pi_seqV (i : Nat) {x : Str} {pos : Pos} {tg : Expr} (hN : X.N[i]? = some x := by rfl) (hv : Vis X.env.scope x := by first | exact Or.inl rfl | exact Or.inr (Or.inl rfl) | exact Or.inr (Or.inr rfl)) (hd : (x == ("__debug__" : Str)) = false := by decide)
    (hc : (x == ("__classdict__" : Str)) = false := by decide) : PI X tg (.Name x pos) (iSeqV i) := by
  refine ⟨fun pins s σ H R I hw => ?_⟩
  obtain ⟨a, xs, e, h, k⟩ := hw
  rcases h with h | h
  · exact (pi_list (pe_var hN hv hd hc)).run pins s σ H R I ⟨_, e, a, rfl, ⟨xs, .of h⟩, k _ (wk_list h)⟩
  · exact (pi_tup (pe_var hN hv hd hc)).run pins s σ H R I ⟨_, e, a, rfl, ⟨xs, .of h⟩, k _ (wk_tup h)⟩
def gAny (n : Nat) (t : TGs) : TG := fun v σ H Q => ∃ a xs, v = .ref a ∧ Sq2 H a xs ∧ xs.length = n ∧ t xs σ H Q
theorem pg_any {es : List Expr} {k n : Nat} {t : TGs} {pos : Pos} (hc : X.calm = true) (h : PGs X es t) (hn : (assignEach es X.env).length = n := by rfl) (hst : (assignEach es X.env).findIdx? (fun z => z.1) = none := by rfl) : PG X (.Tuple es k pos) (gAny n t) := by
  refine ⟨fun pins s σ H v u Q I r hw => ?_⟩
  obtain ⟨a, xs, e, hx, hl, hw⟩ := hw
  rcases hx with z | z
  · exact (pg_unl hc h hn hst).run pins s σ H v u Q I r ⟨a, xs, e, .of z, hl, hw⟩
  · exact (pg_tup hc h hn hst).run pins s σ H v u Q I r ⟨a, xs, e, .of z, hl, hw⟩
/-- zip(x, x[1:]) -/
structure WkZ (J : It) (H : Hp) (xs : List V) : Prop where
  go : ∀ i H', Same H H' → i + 1 < xs.length → J.go i H'
  stop : ∀ H', Same H H' → J.stop (xs.length - 1) H'
  yld : ∀ i x H' H'', Same H H' → J.yld i H' x H'' → ∃ T x1 x2, x = .ref T ∧ H' T = none ∧ H'' = upd H' T (.tup [x1, x2]) ∧ xs[i]? = some x1 ∧ (i + 1 < xs.length → xs[i + 1]? = some x2)
def iZip1 (i : Nat) : TI := fun σ H R => ∃ a xs, σ[i]? = some (some (.ref a)) ∧ Sq2 H a xs ∧ ∀ J H', Same H H' → WkZ J H' xs → R J H'
theorem cutt_one (xs : List V) : cutV xs (some 1) none = xs.drop 1 := by
  have e : HT.sIx xs.length 0 (some 1) = min 1 xs.length := HT.sIx_nat xs.length 0 1
  unfold cutV
  rw [e, HT.sIx_none]
  cases xs with
  | nil => rfl
  | cons x r =>
    have e1 : min 1 (x :: r).length = 1 := by simp only [List.length_cons]; omega
    rw [e1]
    simp
theorem pi_zip1 {i : Nat} {tg it : Expr} {tl th : TO} (h : PI X tg it (RZ.iZipA X.K (tCons (tVar i) (tCons (tSl (fun x lo hi H Q => rSlL X.K x lo hi H Q ∨ rSlA X.K x lo hi H Q) (tVar i) tl th) tNil))))
    (h1 : ∀ (σ : L2.St) (H : Hp) (Q : Option Int → Hp → Prop), Q (some 1) H → tl σ H Q) (h2 : ∀ (σ : L2.St) (H : Hp) (Q : Option Int → Hp → Prop), Q none H → th σ H Q) : PI X tg it (iZip1 i) := by
  refine ⟨fun pins s σ H R I hw => h.run pins s σ H R I ?_⟩
  obtain ⟨a, xs, e, hx, k⟩ := hw
  refine ⟨_, e, _, e, h1 σ H _ (h2 σ H _ ?_)⟩
  have gn : ∀ j : Nat, (xs.drop 1)[j]? = xs[j + 1]? := fun j => by rw [List.getElem?_drop, Nat.add_comm 1 j]
  rcases hx with hx | hx
  · refine .inl ⟨a, xs, rfl, .of hx, fun c nc => ?_⟩
    have sc : Same H (upd H c (.lst (cutV xs (some 1) none))) := fun b o z => by rw [upd_ne (ne_of_none z nc)]; exact z
    have hc : (upd H c (.lst (cutV xs (some 1) none))) c = some (.lst (xs.drop 1)) := by rw [upd_same, cutt_one]
    refine ⟨a, c, xs, xs.drop 1, rfl, .inl ⟨.of (sc _ _ hx), .of hc, k _ _ sc ⟨fun j H' sj hj => ?_, fun H' sj => ?_, fun j x H' H'' sj y => ?_⟩⟩⟩
    · exact ⟨xs, xs.drop 1, xs[j], xs[j + 1], .of (sj _ _ (sc _ _ hx)), .of (sj _ _ hc), List.getElem?_eq_getElem (by omega), by rw [gn]; exact List.getElem?_eq_getElem hj⟩
    · exact ⟨xs, xs.drop 1, .of (sj _ _ (sc _ _ hx)), .of (sj _ _ hc), .inr (by rw [List.length_drop]; exact Nat.le_refl _)⟩
    · obtain ⟨T, x1, x2, e1, e2, e3, f1, f2⟩ := y
      exact ⟨T, x1, x2, e1, e2, e3, f1 xs (.of (sj _ _ (sc _ _ hx))), fun _ => by rw [← gn]; exact f2 _ (.of (sj _ _ hc))⟩
  · refine .inr ⟨a, xs, rfl, .of hx, fun z => ?_, fun z c nc => ?_⟩
    · have lz : xs.length = 0 := by
        have z1 := z.1
        rw [show HT.sIx xs.length 0 (some 1) = min 1 xs.length from HT.sIx_nat xs.length 0 1] at z1
        omega
      refine ⟨a, a, xs, xs, rfl, .inr ⟨.of hx, .of hx, k _ _ (Same.refl _) ⟨fun j H' sj hj => by omega, fun H' sj => ⟨xs, xs, .of (sj _ _ hx), .of (sj _ _ hx), .inl (by omega)⟩, fun j x H' H'' sj y => ?_⟩⟩⟩
      obtain ⟨T, x1, x2, e1, e2, e3, f1, f2⟩ := y
      exact ⟨T, x1, x2, e1, e2, e3, f1 xs (.of (sj _ _ hx)), fun hj => by omega⟩
    · have sc : Same H (upd H c (.tup (cutV xs (some 1) none))) := fun b o z => by rw [upd_ne (ne_of_none z nc)]; exact z
      have hc : (upd H c (.tup (cutV xs (some 1) none))) c = some (.tup (xs.drop 1)) := by rw [upd_same, cutt_one]
      refine ⟨a, c, xs, xs.drop 1, rfl, .inr ⟨.of (sc _ _ hx), .of hc, k _ _ sc ⟨fun j H' sj hj => ?_, fun H' sj => ?_, fun j x H' H'' sj y => ?_⟩⟩⟩
      · exact ⟨xs, xs.drop 1, xs[j], xs[j + 1], .of (sj _ _ (sc _ _ hx)), .of (sj _ _ hc), List.getElem?_eq_getElem (by omega), by rw [gn]; exact List.getElem?_eq_getElem hj⟩
      · exact ⟨xs, xs.drop 1, .of (sj _ _ (sc _ _ hx)), .of (sj _ _ hc), .inr (by rw [List.length_drop]; exact Nat.le_refl _)⟩
      · obtain ⟨T, x1, x2, e1, e2, e3, f1, f2⟩ := y
        exact ⟨T, x1, x2, e1, e2, e3, f1 xs (.of (sj _ _ (sc _ _ hx))), fun _ => by rw [← gn]; exact f2 _ (.of (sj _ _ hc))⟩
end
/-! ### runs and states, dressed -/
def RunG (H : Hp) (v : V) (r : Run) : Prop := ∃ t, v = .ref t ∧ Sq2 H t [.str r.1, .int r.2]
def RunsG (H : Hp) (v : V) (rs : List Run) : Prop := ∃ a xs, v = .ref a ∧ Sq2 H a xs ∧ Paired (RunG H) xs rs
def StG (H : Hp) (v : V) : Option Run → Prop
  | none => v = .non
  | some r => RunG H v r
theorem RunG.same {H H' : Hp} {v : V} {r : Run} (s : Same H H') (h : RunG H v r) : RunG H' v r := by
  obtain ⟨t, e, h⟩ := h
  exact ⟨t, e, h.same s⟩
theorem RunsG.same {H H' : Hp} {v : V} {rs : List Run} (s : Same H H') (h : RunsG H v rs) : RunsG H' v rs := by
  obtain ⟨a, xs, e, hx, p⟩ := h
  exact ⟨a, xs, e, hx.same s, Paired.imp (fun _ _ => RunG.same s) p⟩
theorem StG.same {H H' : Hp} {v : V} {st : Option Run} (s : Same H H') (h : StG H v st) : StG H' v st := by
  cases st with
  | none => exact h
  | some r => exact RunG.same s h
theorem RunV.dress {H : Hp} {v : V} {r : Run} (h : RunV H v r) : RunG H v r := by
  obtain ⟨t, e, h⟩ := h
  exact ⟨t, e, .inr h⟩
theorem Runs.dress {H : Hp} {a : Addr} {rs : List Run} (h : Runs H a rs) : RunsG H (.ref a) rs := by
  obtain ⟨xs, hx, p⟩ := h
  exact ⟨a, xs, rfl, .inl hx, Paired.imp (fun _ _ => RunV.dress) p⟩
theorem StV.dress {H : Hp} {v : V} {st : Option Run} (h : StV H v st) : StG H v st := by
  cases st with
  | none => exact h
  | some r => exact RunV.dress h
theorem Sq2.but {H H' : Hp} {sp a : Addr} {xs : List V} (z : Spr H sp) (s : But sp H H') (h : Sq2 H a xs) (n : ∀ d e f, xs ≠ [.int d, .int e, .int f]) : Sq2 H' a xs := by
  obtain ⟨d, e, f, hs, _⟩ := z
  rcases h with h | h
  · exact .inl (s _ _ (ne_of h hs fun q => n d e f (HO.lst.inj q)) h)
  · exact .inr (s _ _ (ne_of h hs fun q => by cases q) h)
theorem RunG.but {H H' : Hp} {sp : Addr} {v : V} {r : Run} (z : Spr H sp) (s : But sp H H') (h : RunG H v r) : RunG H' v r := by
  obtain ⟨t, e, h⟩ := h
  exact ⟨t, e, h.but z s fun _ _ _ q => by cases q⟩
theorem RunsG.but {H H' : Hp} {sp : Addr} {v : V} {rs : List Run} (z : Spr H sp) (s : But sp H H') (h : RunsG H v rs) : RunsG H' v rs := by
  obtain ⟨a, xs, e, hx, p⟩ := h
  refine ⟨a, xs, e, hx.but z s fun d _ _ q => ?_, Paired.imp (fun _ _ => RunG.but z s) p⟩
  subst q
  cases p with
  | cons h _ =>
    obtain ⟨_, e, _⟩ := h
    cases e
theorem StG.but {H H' : Hp} {sp : Addr} {v : V} {st : Option Run} (z : Spr H sp) (s : But sp H H') (h : StG H v st) : StG H' v st := by
  cases st with
  | none => exact h
  | some r => exact RunG.but z s h
end UP

set_option Elab.async false
set_option linter.all false
set_option maxRecDepth 100000
set_option maxHeartbeats 4000000
namespace UP
open PySem PySem.Spec PyProof.Rows L2
def topS (i : Nat) : Stmt := PySem.Challenge.pw_unlikepairs_k01_kinds_sequences_states.main.body.getD i (.Pass ⟨0, 0, 0, 0⟩)
structure Tx (mg : Str → Option Value) : Prop where
  n_isinstance : mg "isinstance" = none
  n_int : mg "int" = none
  n_bool : mg "bool" = none
  n_str : mg "str" = none
  n_list : mg "list" = none
  n_tuple : mg "tuple" = none
  n_len : mg "len" = none
  n_all : mg "all" = none
  n_zip : mg "zip" = none
  n_sum : mg "sum" = none
  n_min : mg "min" = none
  n_max : mg "max" = none
  n_abs : mg "abs" = none
  n_range : mg "range" = none
  n_repr : mg "repr" = none
  n_enumerate : mg "enumerate" = none
  n_any : mg "any" = none
  n_dict : mg "dict" = none
  n_sorted : mg "sorted" = none
  n_set : mg "set" = none
  n_reversed : mg "reversed" = none
  c_MAX_LETTERS : ∃ t, mg "MAX_LETTERS" = some (.int 8 t)
  c_MAX_RUNS : ∃ t, mg "MAX_RUNS" = some (.int 400 t)
  c_MAX_COUNT : ∃ t, mg "MAX_COUNT" = some (.int 1000000000000000000000000000000 t)
section
variable {P : Program} {w : World} {K : PySem.W.Frag} {mg : Str → Option Value} {base : Heap}
/-! is_whole: slots 0:value -/
abbrev s_is_whole : Stmt := topS 4
theorem sc_is_whole : FnScope ["value"] ["value"] (defScope s_is_whole) := ⟨rfl, rfl, rfl, by decide +kernel, rfl, by decide +kernel, by decide +kernel⟩
def sp_is_whole : Sp := fun vs H Q _ => ∃ n : Int, vs = [.int n] ∧ Q (.bl true) H
theorem ok_is_whole (D : Df K mg "is_whole" s_is_whole) (T : Tx mg) : Has P w K mg base 1 "is_whole" ["value"] sp_is_whole := by
  refine has_of D sc_is_whole (fun _ _ _ _ _ _ us hl => match us, hl with | [_], _ => rfl) (fun vs H Q E h => ?_) (fun f cdv A outer s H vs Q E hr h => ?_)
  · obtain ⟨n, rfl, _⟩ := h
    rfl
  · obtain ⟨n, rfl, q⟩ := h
    refine ⟨_, (pss_one (ps_ret (pe_and (pe_callB call_isi (by rfl) T.n_isinstance (by decide +kernel) (pa_cons (pv 0) (pa_cons (pe_bltn (v := .ty "int") (by rfl) T.n_int (by decide +kernel) rfl) pa_nil))) (pe_one (pe_not (pe_callB call_isi (by rfl) T.n_isinstance (by decide +kernel) (pa_cons (pv 0) (pa_cons (pe_bltn (v := .ty "bool") (by rfl) T.n_bool (by decide +kernel) rfl) pa_nil)))))))), ?_⟩
    exact ⟨_, rfl, _, _, _, _, true, rfl, .ty "int", .base (.int n), kit_ty (by decide +kernel), true, rfl, iteT ⟨_, rfl, _, _, _, _, false, rfl, .ty "bool", .base (.int n), kit_ty (by decide +kernel), false, rfl, q⟩⟩
/-! is_within: slots 0:value 1:low 2:high -/
abbrev s_is_within : Stmt := topS 5
theorem sc_is_within : FnScope ["value", "low", "high"] ["value", "low", "high"] (defScope s_is_within) := ⟨rfl, rfl, rfl, by decide +kernel, rfl, by decide +kernel, by decide +kernel⟩
def sp_is_within : Sp := fun vs H Q _ => ∃ n lo hi : Int, vs = [.int n, .int lo, .int hi] ∧ Q (.bl (decide (lo ≤ n ∧ n ≤ hi))) H
theorem ok_is_within (D : Df K mg "is_within" s_is_within) (G_is_whole : Has P w K mg base 1 "is_whole" ["value"] sp_is_whole) : Has P w K mg base 2 "is_within" ["value", "low", "high"] sp_is_within := by
  refine has_of D sc_is_within (fun _ _ _ _ _ _ us hl => match us, hl with | [_, _, _], _ => rfl) (fun vs H Q E h => ?_) (fun f cdv A outer s H vs Q E hr h => ?_)
  · obtain ⟨n, lo, hi, rfl, _⟩ := h
    rfl
  · obtain ⟨n, lo, hi, rfl, q⟩ := h
    refine ⟨_, (pss_one (ps_ret (pe_and (pe_callH G_is_whole (hr.mono (by omega)) (by rfl) (pa_cons (pv 0) pa_nil)) (pe_one (pe_chain op_le op_le (pv 1) (pv 0) (pv 2)))))), ?_⟩
    refine ⟨_, rfl, n, rfl, true, rfl, iteT ⟨_, rfl, _, rfl, _, _, rfl, rfl, _, rfl, ite2 (fun e => ?_) (fun e => ?_)⟩⟩
    · have e := of_decide_eq_true e
      refine ⟨_, rfl, _, _, rfl, rfl, ?_⟩
      show Q (.bl (decide (n ≤ hi))) H
      rw [show decide (n ≤ hi) = decide (lo ≤ n ∧ n ≤ hi) by simp [e]]
      exact q
    · have e : ¬ lo ≤ n := fun z => e (decide_eq_true z)
      show Q (.bl false) H
      rw [show false = decide (lo ≤ n ∧ n ≤ hi) by simp [e]]
      exact q
theorem kit_lst {K : PySem.W.Frag} : PySem.W.kitAny K (.type "list") [.type "list", .type "tuple"] = some true := kitAny_cons (b := true) (kit_ty (by decide +kernel)) (fun z => nomatch z) (fun _ => rfl)
theorem kit_tup {K : PySem.W.Frag} : PySem.W.kitAny K (.type "tuple") [.type "list", .type "tuple"] = some true := kitAny_cons (b := false) (kit_ty (by decide +kernel)) (fun _ => kitAny_cons (b := true) (kit_ty (by decide +kernel)) (fun z => nomatch z) (fun _ => rfl)) (fun z => nomatch z)
/-! is_listed: slots 0:value 1:most -/
abbrev s_is_listed : Stmt := topS 6
theorem sc_is_listed : FnScope ["value", "most"] ["value", "most"] (defScope s_is_listed) := ⟨rfl, rfl, rfl, by decide +kernel, rfl, by decide +kernel, by decide +kernel⟩
def sp_is_listed : Sp := fun vs H Q _ => ∃ (a : Addr) (xs : List V) (m : Int), vs = [.ref a, .int m] ∧ Sq2 H a xs ∧ ∀ H', Same H H' → Q (.bl (decide ((xs.length : Int) ≤ m))) H'
theorem ok_is_listed (D : Df K mg "is_listed" s_is_listed) (T : Tx mg) : Has P w K mg base 1 "is_listed" ["value", "most"] sp_is_listed := by
  refine has_of D sc_is_listed (fun _ _ _ _ _ _ us hl => match us, hl with | [_, _], _ => rfl) (fun vs H Q E h => ?_) (fun f cdv A outer s H vs Q E hr h => ?_)
  · obtain ⟨a, xs, m, rfl, _⟩ := h
    rfl
  · obtain ⟨a, xs, m, rfl, hx, q⟩ := h
    refine ⟨_, (pss_one (ps_ret (pe_and (pe_callB call_isiT (by rfl) T.n_isinstance (by decide +kernel) (pa_cons (pv 0) (pa_cons (pe_tup (pa_cons (pe_bltn (v := .ty "list") (by rfl) T.n_list (by decide +kernel) rfl) (pa_cons (pe_bltn (v := .ty "tuple") (by rfl) T.n_tuple (by decide +kernel) rfl) pa_nil))) pa_nil))) (pe_one (pe_cmpR op_le (pe_callB call_len_seq (by rfl) T.n_len (by decide +kernel) (pa_cons (pv 0) pa_nil)) (pv 1) (nomark _)))))), ?_⟩
    refine ⟨_, rfl, (by show 2 ≤ sizeLine; decide), fun t nt => ?_⟩
    rcases hx with hx | hx
    · refine ⟨_, t, _, _, _, true, rfl, upd_same, .cons (.ty "list") (.cons (.ty "tuple") .nil), .base (.lst (same_upd nt _ _ hx)), kit_lst, true, rfl, iteT ?_⟩
      exact ⟨_, rfl, _, _, rfl, .inl (.of (same_upd nt _ _ hx)), _, rfl, _, _, rfl, rfl, q _ (same_upd nt)⟩
    · refine ⟨_, t, _, _, _, true, rfl, upd_same, .cons (.ty "list") (.cons (.ty "tuple") .nil), .base (.tup (same_upd nt _ _ hx)), kit_tup, true, rfl, iteT ?_⟩
      exact ⟨_, rfl, _, _, rfl, .inr (.of (same_upd nt _ _ hx)), _, rfl, _, _, rfl, rfl, q _ (same_upd nt)⟩
/-! is_couple: slots 0:value -/
abbrev s_is_couple : Stmt := topS 7
theorem sc_is_couple : FnScope ["value"] ["value"] (defScope s_is_couple) := ⟨rfl, rfl, rfl, by decide +kernel, rfl, by decide +kernel, by decide +kernel⟩
def sp_is_couple : Sp := fun vs H Q _ => ∃ (a : Addr) (xs : List V), vs = [.ref a] ∧ Sq2 H a xs ∧ xs.length = 2 ∧ ∀ H', Same H H' → Q (.bl true) H'
theorem ok_is_couple (D : Df K mg "is_couple" s_is_couple) (T : Tx mg) : Has P w K mg base 1 "is_couple" ["value"] sp_is_couple := by
  refine has_of D sc_is_couple (fun _ _ _ _ _ _ us hl => match us, hl with | [_], _ => rfl) (fun vs H Q E h => ?_) (fun f cdv A outer s H vs Q E hr h => ?_)
  · obtain ⟨a, xs, rfl, _⟩ := h
    rfl
  · obtain ⟨a, xs, rfl, hx, hl, q⟩ := h
    refine ⟨_, (pss_one (ps_ret (pe_and (pe_callB call_isiT (by rfl) T.n_isinstance (by decide +kernel) (pa_cons (pv 0) (pa_cons (pe_tup (pa_cons (pe_bltn (v := .ty "list") (by rfl) T.n_list (by decide +kernel) rfl) (pa_cons (pe_bltn (v := .ty "tuple") (by rfl) T.n_tuple (by decide +kernel) rfl) pa_nil))) pa_nil))) (pe_one (pe_cmpR op_eq (pe_callB call_len_seq (by rfl) T.n_len (by decide +kernel) (pa_cons (pv 0) pa_nil)) pe_int (nomark _)))))), ?_⟩
    refine ⟨_, rfl, (by show 2 ≤ sizeLine; decide), fun t nt => ?_⟩
    rcases hx with hx | hx
    · refine ⟨_, t, _, _, _, true, rfl, upd_same, .cons (.ty "list") (.cons (.ty "tuple") .nil), .base (.lst (same_upd nt _ _ hx)), kit_lst, true, rfl, iteT ⟨_, rfl, _, _, rfl, .inl (.of (same_upd nt _ _ hx)), rfl, ?_⟩⟩
      rw [hl]
      exact q _ (same_upd nt)
    · refine ⟨_, t, _, _, _, true, rfl, upd_same, .cons (.ty "list") (.cons (.ty "tuple") .nil), .base (.tup (same_upd nt _ _ hx)), kit_tup, true, rfl, iteT ⟨_, rfl, _, _, rfl, .inr (.of (same_upd nt _ _ hx)), rfl, ?_⟩⟩
      rw [hl]
      exact q _ (same_upd nt)
end
end UP

set_option Elab.async false
set_option linter.all false
set_option maxRecDepth 100000
set_option maxHeartbeats 4000000
namespace UP
open PySem PySem.Spec PyProof.Rows L2
theorem iteP {b : Bool} {A B : Prop} (h : b = true) (x : A) : if b = true then A else B := by
  rw [if_pos h]
  exact x
theorem iteN {b : Bool} {A B : Prop} (h : b = false) (x : B) : if b = true then A else B := by
  rw [if_neg (by rw [h]; decide)]
  exact x
theorem yesT {σ : L2.St} {H : Hp} {A B : Hp → Prop} (h : A H) : tYes σ H (fun b H3 => if b = true then A H3 else B H3) := by
  show (if true = true then A H else B H)
  exact iteT h
theorem lc_gen {J : It} {n : Nat} {g : TG} {tt : TT} {te : TE} {vs : List Nat} {σ : L2.St} {H1 : Hp} {D : Addr} {Qd : Hp → Prop} (Pv : Nat → Hp → Prop) (h0 : Pv 0 (upd H1 D (.lst [])))
    (hg : ∀ i H, i < n → Pv i H → J.go i H) (hst : ∀ H, Pv n H → J.stop n H)
    (hs : ∀ i x H H', i < n → Pv i H → J.yld i H x H' → g x (wipe σ vs) H' fun σ2 H2 => wipe σ2 vs = wipe σ vs ∧ tt σ2 H2 fun b H3 =>
      if b = true then te σ2 H3 fun y H4 => ∃ acc, H4 D = some (.lst acc) ∧ acc.length < sizeLine ∧ Pv (i + 1) (upd H4 D (.lst (acc ++ [y]))) else Pv (i + 1) H3) (hd : ∀ H, Pv n H → Qd H) :
    ∃ W : Nat → Nat → Hp → Prop, (∃ m, W 0 m (upd H1 D (.lst []))) ∧ ∀ i m H, W i m H →
      (J.stop i H ∧ Qd H) ∨ (J.go i H ∧ ∃ Nx : Hp → Prop, (∀ H', Nx H' → ∃ m', m' < m ∧ W (i + 1) m' H') ∧ ∀ x H', J.yld i H x H' → g x (wipe σ vs) H' fun σ2 H2 => wipe σ2 vs = wipe σ vs ∧ tt σ2 H2 fun b H3 =>
        if b = true then te σ2 H3 fun y H4 => ∃ acc, H4 D = some (.lst acc) ∧ acc.length < sizeLine ∧ Nx (upd H4 D (.lst (acc ++ [y]))) else Nx H3) := by
  refine ⟨fun i m H => m = n - i ∧ i ≤ n ∧ Pv i H, ⟨n, by simp, Nat.zero_le _, h0⟩, ?_⟩
  rintro i m H ⟨rfl, hi, p⟩
  by_cases hlt : i < n
  · exact .inr ⟨hg i H hlt p, Pv (i + 1), fun H' p' => ⟨n - (i + 1), by omega, rfl, hlt, p'⟩, fun x H' y => hs i x H H' hlt p y⟩
  · have e : i = n := by omega
    subst e
    exact .inl ⟨hst H p, hd H p⟩
section
variable {X : Cx} {K : PySem.W.Frag}
theorem ix_tupK (h : X.K = K) : IxR X (rIxT K) := h ▸ ix_tup
theorem ix_listK (h : X.K = K) : IxR X (rIxL K) := h ▸ ix_list
theorem pg_tupK {es : List Expr} {k : Nat} {t : TGs} {n : Nat} {pos : Pos} (h : X.K = K) (hc : X.calm = true) (hp : PGs X es t)
    (hn : (assignEach es X.env).length = n := by rfl) (hst : (assignEach es X.env).findIdx? (fun z => z.1) = none := by rfl) : PG X (.Tuple es k pos) (gTup K n t) := by
  subst h
  exact pg_tup hc hp hn hst
theorem call_len_seqK (h : X.K = K) : CallR X (.builtin "len") (fun xs H Q => ∃ p ys, xs = [.ref p] ∧ (SqL K H p ys ∨ SqT K H p ys) ∧ Q (.int ys.length) H) := by
  subst h
  exact call_len_seq
end
theorem ix_seqK {X : Cx} {K : PySem.W.Frag} (h : X.K = K) : IxR X (rIx K) := h ▸ ix_seq
/-! ### lists that grow -/
theorem same_grow {H H4 : Hp} {D : Addr} {o : HO} (n : H D = none) (s : Same H H4) : Same H (upd H4 D o) := fun b x e => by
  rw [upd_ne (ne_of_none e n)]
  exact s b x e
theorem RunV.grow {H : Hp} {D : Addr} {acc acc' : List V} {v : V} {r : Run} (hD : H D = some (.lst acc)) (h : RunV H v r) : RunV (upd H D (.lst acc')) v r := by
  obtain ⟨t, e, h⟩ := h
  refine ⟨t, e, ?_⟩
  rw [upd_ne (ne_of h hD (by intro q; cases q))]
  exact h
theorem prs_grow {H : Hp} {D : Addr} {acc acc' : List V} {xs : List V} {rs : List Run} (hD : H D = some (.lst acc)) (h : Paired (RunV H) xs rs) : Paired (RunV (upd H D (.lst acc'))) xs rs := Paired.imp (fun _ _ => RunV.grow hD) h
theorem prs_same {H H' : Hp} {xs : List V} {rs : List Run} (s : Same H H') (h : Paired (RunV H) xs rs) : Paired (RunV H') xs rs := Paired.imp (fun _ _ => RunV.same s) h
theorem take_snoc {α : Type} {l : List α} {i : Nat} {x : α} (h : l[i]? = some x) : l.take (i + 1) = l.take i ++ [x] := by
  rw [List.take_add_one, h]
  rfl
theorem lc_wk {J : It} {H0 H1 : Hp} {xs : List V} {g : TG} {tt : TT} {te : TE} {vs : List Nat} {σ : L2.St} {D : Addr} {Qd : Hp → Prop} (wk : Wk J H0 xs) (Pv : Nat → Hp → Prop) (hsm : ∀ i H, Pv i H → Same H0 H) (h0 : Pv 0 (upd H1 D (.lst [])))
    (hs : ∀ i x H, xs[i]? = some x → Pv i H → g x (wipe σ vs) H fun σ2 H2 => wipe σ2 vs = wipe σ vs ∧ tt σ2 H2 fun b H3 =>
      if b = true then te σ2 H3 fun y H4 => ∃ acc, H4 D = some (.lst acc) ∧ acc.length < sizeLine ∧ Pv (i + 1) (upd H4 D (.lst (acc ++ [y]))) else Pv (i + 1) H3) (hd : ∀ H, Pv xs.length H → Qd H) :
    ∃ W : Nat → Nat → Hp → Prop, (∃ m, W 0 m (upd H1 D (.lst []))) ∧ ∀ i m H, W i m H →
      (J.stop i H ∧ Qd H) ∨ (J.go i H ∧ ∃ Nx : Hp → Prop, (∀ H', Nx H' → ∃ m', m' < m ∧ W (i + 1) m' H') ∧ ∀ x H', J.yld i H x H' → g x (wipe σ vs) H' fun σ2 H2 => wipe σ2 vs = wipe σ vs ∧ tt σ2 H2 fun b H3 =>
        if b = true then te σ2 H3 fun y H4 => ∃ acc, H4 D = some (.lst acc) ∧ acc.length < sizeLine ∧ Nx (upd H4 D (.lst (acc ++ [y]))) else Nx H3) := by
  refine lc_gen Pv h0 (fun i H hi p => wk.go i H (hsm i H p) hi) (fun H p => wk.stop H (hsm _ H p)) (fun i x H H' hi p y => ?_) hd
  obtain ⟨e, ex⟩ := wk.yld i x H H' (hsm i H p) y
  subst e
  exact hs i x _ ex p
theorem for_wk {J : It} {H0 H : Hp} {xs : List V} {g : TG} {tb : TS} {D : Ends} {σ : L2.St} (wk : Wk J H0 xs) (Pv : Nat → L2.St → Hp → Prop) (hsm : ∀ i σ H, Pv i σ H → Same H0 H) (h0 : Pv 0 σ H)
    (hs : ∀ i x σ H, xs[i]? = some x → Pv i σ H → g x σ H fun σ2 H2 => tb { D with nx := Pv (i + 1), ct := Pv (i + 1), bk := D.nx } σ2 H2) (hd : ∀ σ H, Pv xs.length σ H → D.nx σ H) :
    ∃ W : Nat → Nat → L2.St → Hp → Prop, (∃ m, W 0 m σ H) ∧ ∀ i m σ H, W i m σ H →
      (J.stop i H ∧ D.nx σ H) ∨ (J.go i H ∧ ∃ N : L2.St → Hp → Prop, (∀ σ' H', N σ' H' → ∃ m', m' < m ∧ W (i + 1) m' σ' H') ∧ ∀ x H', J.yld i H x H' → g x σ H' fun σ2 H2 => tb { D with nx := N, ct := N, bk := D.nx } σ2 H2) := by
  refine ⟨fun i m σ H => m = xs.length - i ∧ i ≤ xs.length ∧ Pv i σ H, ⟨xs.length, by omega, Nat.zero_le _, h0⟩, ?_⟩
  rintro i m σ H ⟨rfl, hi, p⟩
  by_cases hlt : i < xs.length
  · refine Or.inr ⟨wk.go i H (hsm i σ H p) hlt, Pv (i + 1), fun σ' H' p' => ⟨xs.length - (i + 1), by omega, rfl, hlt, p'⟩, fun x H' y => ?_⟩
    obtain ⟨e, ex⟩ := wk.yld i x H H' (hsm i σ H p) y
    subst e
    exact hs i x σ _ ex p
  · have e : i = xs.length := by omega
    subst e
    exact Or.inl ⟨wk.stop H (hsm _ σ H p), hd σ H p⟩
section
variable {P : Program} {w : World} {K : PySem.W.Frag} {mg : Str → Option Value} {base : Heap}
theorem lex1 {c d : Nat} : (!decide (([c] : List Nat) < [d])) = decide (d ≤ c) := by
  have e : (([c] : List Nat) < [d]) ↔ c < d := by
    rw [List.cons_lt_cons_iff]
    simp
  by_cases h : c < d
  · rw [decide_eq_true (e.mpr h), decide_eq_false (by omega)]
    rfl
  · rw [decide_eq_false (fun z => h (e.mp z)), decide_eq_true (by omega)]
    rfl
/-! is_kind: slots 0:value 1:letter -/
abbrev s_is_kind : Stmt := topS 8
theorem sc_is_kind : FnScope ["value", "letter"] ["value"] (defScope s_is_kind) := ⟨rfl, rfl, rfl, by decide +kernel, rfl, by decide +kernel, by decide +kernel⟩
def sp_is_kind : Sp := fun vs H Q _ => ∃ z : Str, vs = [.str z] ∧ KindOk z ∧ ∀ H', Same H H' → Q (.bl true) H'
theorem ok_is_kind (D : Df K mg "is_kind" s_is_kind) (T : Tx mg) : Has P w K mg base 1 "is_kind" ["value"] sp_is_kind := by
  refine has_of D sc_is_kind (fun _ _ _ _ _ _ us hl => match us, hl with | [_], _ => rfl) (fun vs H Q E h => ?_) (fun f cdv A outer s H vs Q E hr h => ?_)
  · obtain ⟨n, rfl, _⟩ := h
    rfl
  · obtain ⟨z, rfl, ⟨k1, k2, k3⟩, q⟩ := h
    refine ⟨_, (pss_cons (ps_if (PW.pt (pw_or (pt_not (pt_val (pe_callB call_isi (by rfl) T.n_isinstance (by decide +kernel) (pa_cons (pv 0) (pa_cons (pe_bltn (v := .ty "str") (by rfl) T.n_str (by decide +kernel) rfl) pa_nil))))) (pw_or1 (pt_not (pt_chain op_le op_le pe_int (pe_callB call_len_str (by rfl) T.n_len (by decide +kernel) (pa_cons (pv 0) pa_nil)) (pe_glI T.c_MAX_LETTERS (by rfl))))))) (pss_one (ps_ret pe_bl)) pss_nil)
    (pss_one (ps_ret (pe_callB (cr_all rfl) (by rfl) T.n_all (by decide +kernel) (pa_cons (pe_lc (own := [("letter", 1)]) rfl sc_is_kind.nd (pi_str (pv 0)) (blkOk_by (N := ["value", "letter"]) (sc := defScope s_is_kind) (by decide +kernel)) (fun _ _ _ _ _ => (pg_name (i := 1) sc_is_kind.nd rfl (by first | exact Or.inl rfl | exact Or.inr rfl))) (fun _ _ _ _ _ => pts_nil) (fun _ _ _ _ _ => (pe_chain op_le_str op_le_str pe_str (pv 1) pe_str))) pa_nil))))), ?_⟩
    refine ⟨_, rfl, _, _, _, _, true, rfl, .ty "str", .base (.str z), kit_ty (by decide +kernel), true, rfl, iteF ?_⟩
    refine ⟨_, rfl, z, rfl, smallE (by omega), _, _, rfl, rfl, _, rfl, iteP (decide_eq_true (by omega)) ⟨_, _, rfl, rfl, _, rfl, iteN ?_ ?_⟩⟩
    · show (!decide ((z.length : Int) ≤ 8)) = false
      rw [decide_eq_true (by omega)]
      rfl
    refine ⟨_, rfl, z, rfl, fun L nL => lc_gen (n := z.cps.size) (fun i H' => Same H H' ∧ H' L = some (.lst ((List.replicate i true).map V.bl))) ⟨same_upd nL, upd_same⟩ (fun i H' hi _ => hi) (fun H' _ => Nat.le_refl _) (fun i x H1 H2 hi p y => ?_) (fun H' p => ?_)⟩
    · obtain ⟨rfl, c, ec, rfl⟩ := y
      obtain ⟨sm, hL⟩ := p
      have hc : 97 ≤ c ∧ c ≤ 122 := k3 c (by
        have := Array.mem_of_getElem? ec
        simpa using this)
      have ea : ("a" : Str).cps.toList = [97] := by decide +kernel
      have ez : ("z" : Str).cps.toList = [122] := by decide +kernel
      refine ⟨rfl, yesT ⟨_, rfl, _, _, rfl, rfl, _, rfl, iteP ?_ ⟨_, _, rfl, rfl, _, hL, ?_, ?_, ?_⟩⟩⟩
      · show (!decide (([c] : List Nat) < ("a" : Str).cps.toList)) = true
        rw [ea, lex1]
        exact decide_eq_true hc.1
      · simp only [List.length_map, List.length_replicate]
        exact small (by have : z.cps.size = z.length := rfl; omega)
      · intro b o e
        have nb : b ≠ L := ne_of_none e nL
        rw [upd_ne nb]
        exact sm b o e
      · rw [upd_same]
        have e1 : (!decide ((("z" : Str).cps.toList) < ([c] : List Nat))) = true := by
          rw [ez, lex1]
          exact decide_eq_true hc.2
        show some (HO.lst ((List.replicate i true).map V.bl ++ [V.bl (!decide ((("z" : Str).cps.toList) < ([c] : List Nat)))])) = _
        rw [e1, List.replicate_succ', List.map_append]
        rfl
    · refine ⟨L, _, rfl, .of p.2, ?_⟩
      have e : ((List.replicate z.cps.size true).all id) = true := by simp
      rw [e]
      exact q H' p.1
def StOk (st : Option Run) : Prop := ∀ r, st = some r → KindOk r.1 ∧ 1 ≤ r.2
theorem at0 {α : Type} {x y : α} : atI [x, y] 0 = some x := rfl
theorem at1 {α : Type} {x y : α} : atI [x, y] 1 = some y := rfl
theorem ix0 {K : PySem.W.Frag} {H : Hp} {t : Addr} {x y : V} {Q : VK} (h : Sq2 H t [x, y]) (q : Q x H) : rIx K (.ref t) (.int 0) H Q := h.elim (fun z => .inl ⟨t, _, 0, _, rfl, rfl, .of z, at0, q⟩) (fun z => .inr (.inl ⟨t, _, 0, _, rfl, rfl, .of z, at0, q⟩))
theorem ix1 {K : PySem.W.Frag} {H : Hp} {t : Addr} {x y : V} {Q : VK} (h : Sq2 H t [x, y]) (q : Q y H) : rIx K (.ref t) (.int 1) H Q := h.elim (fun z => .inl ⟨t, _, 1, _, rfl, rfl, .of z, at1, q⟩) (fun z => .inr (.inl ⟨t, _, 1, _, rfl, rfl, .of z, at1, q⟩))
theorem all_rep (n : Nat) : ((List.replicate n true).all id) = true := by simp
/-! is_run: slots 0:value -/
abbrev s_is_run : Stmt := topS 9
theorem sc_is_run : FnScope ["value"] ["value"] (defScope s_is_run) := ⟨rfl, rfl, rfl, by decide +kernel, rfl, by decide +kernel, by decide +kernel⟩
def sp_is_run : Sp := fun vs H Q _ => ∃ (v : V) (r : Run), vs = [v] ∧ RunG H v r ∧ RunOk r ∧ ∀ H', Same H H' → Q (.bl true) H'
theorem ok_is_run (D : Df K mg "is_run" s_is_run) (T : Tx mg) (G_is_couple : Has P w K mg base 1 "is_couple" ["value"] sp_is_couple) (G_is_kind : Has P w K mg base 1 "is_kind" ["value"] sp_is_kind) (G_is_within : Has P w K mg base 2 "is_within" ["value", "low", "high"] sp_is_within) :
    Has P w K mg base 3 "is_run" ["value"] sp_is_run := by
  refine has_of D sc_is_run (fun _ _ _ _ _ _ us hl => match us, hl with | [_], _ => rfl) (fun vs H Q E h => ?_) (fun f cdv A outer s H vs Q E hr h => ?_)
  · obtain ⟨v, r, rfl, _⟩ := h
    rfl
  · obtain ⟨v, r, rfl, ⟨t, rfl, ht⟩, ⟨k, c1, c2⟩, q⟩ := h
    refine ⟨_, (pss_one (ps_ret (pe_and (pe_callH G_is_couple (hr.mono (by omega)) (by rfl) (pa_cons (pv 0) pa_nil)) (pe_and (pe_callH G_is_kind (hr.mono (by omega)) (by rfl) (pa_cons (pe_ix ix_seq (pv 0) pe_int (fun _ _ => rfl)) pa_nil)) (pe_one (pe_callH G_is_within (hr.mono (by omega)) (by rfl) (pa_cons (pe_ix ix_seq (pv 0) pe_int (fun _ _ => rfl)) (pa_cons pe_int (pa_cons (pe_glI T.c_MAX_COUNT (by rfl)) pa_nil))))))))), ?_⟩
    refine ⟨_, rfl, t, _, rfl, ht, rfl, fun H1 s1 => ⟨true, rfl, iteT ?_⟩⟩
    refine ⟨_, rfl, ix0 (ht.same s1) ⟨r.1, rfl, k, fun H2 s2 => ⟨true, rfl, iteT ?_⟩⟩⟩
    refine ⟨_, rfl, ix1 ((ht.same s1).same s2) ⟨r.2, 1, _, rfl, ?_⟩⟩
    rw [decide_eq_true ⟨c1, c2⟩]
    exact q _ (s1.trans s2)
/-! is_state: slots 0:value -/
abbrev s_is_state : Stmt := topS 11
theorem sc_is_state : FnScope ["value"] ["value"] (defScope s_is_state) := ⟨rfl, rfl, rfl, by decide +kernel, rfl, by decide +kernel, by decide +kernel⟩
def sp_is_state : Sp := fun vs H Q _ => ∃ (v : V) (st : Option Run), vs = [v] ∧ StG H v st ∧ StOk st ∧ ∀ H', Same H H' → Q (.bl true) H'
theorem ok_is_state (D : Df K mg "is_state" s_is_state) (T : Tx mg) (G_is_couple : Has P w K mg base 1 "is_couple" ["value"] sp_is_couple) (G_is_kind : Has P w K mg base 1 "is_kind" ["value"] sp_is_kind) (G_is_whole : Has P w K mg base 1 "is_whole" ["value"] sp_is_whole) :
    Has P w K mg base 2 "is_state" ["value"] sp_is_state := by
  refine has_of D sc_is_state (fun _ _ _ _ _ _ us hl => match us, hl with | [_], _ => rfl) (fun vs H Q E h => ?_) (fun f cdv A outer s H vs Q E hr h => ?_)
  · obtain ⟨v, r, rfl, _⟩ := h
    rfl
  · obtain ⟨v, st, rfl, hv, ok, q⟩ := h
    refine ⟨_, (pss_cons (ps_if (pt_cmpR op_isN (pv 0) pe_non (nomark _)) (pss_one (ps_ret pe_bl)) pss_nil)
    (pss_one (ps_ret (pe_and (pe_callH G_is_couple (hr.mono (by omega)) (by rfl) (pa_cons (pv 0) pa_nil)) (pe_and (pe_callH G_is_kind (hr.mono (by omega)) (by rfl) (pa_cons (pe_ix ix_seq (pv 0) pe_int (fun _ _ => rfl)) pa_nil)) (pe_and (pe_callH G_is_whole (hr.mono (by omega)) (by rfl) (pa_cons (pe_ix ix_seq (pv 0) pe_int (fun _ _ => rfl)) pa_nil)) (pe_one (pe_cmpR op_ge (pe_ix ix_seq (pv 0) pe_int (fun _ _ => rfl)) pe_int (nomark _))))))))), ?_⟩
    cases st with
    | none =>
      cases hv
      exact ⟨_, rfl, rfl, _, rfl, iteP rfl (q H (Same.refl H))⟩
    | some r =>
      obtain ⟨t, rfl, ht⟩ := hv
      obtain ⟨k, c1⟩ := ok r rfl
      refine ⟨_, rfl, rfl, _, rfl, iteN rfl ?_⟩
      refine ⟨_, rfl, t, _, rfl, ht, rfl, fun H1 s1 => ⟨true, rfl, iteT ?_⟩⟩
      refine ⟨_, rfl, ix0 (ht.same s1) ⟨r.1, rfl, k, fun H2 s2 => ⟨true, rfl, iteT ?_⟩⟩⟩
      refine ⟨_, rfl, ix1 ((ht.same s1).same s2) ⟨r.2, rfl, true, rfl, iteT ?_⟩⟩
      refine ⟨_, rfl, ix1 ((ht.same s1).same s2) ⟨_, _, rfl, rfl, ?_⟩⟩
      show Q (.bl (decide (1 ≤ r.2))) H2
      rw [decide_eq_true c1]
      exact q _ (s1.trans s2)
/-! is_sequence: slots 0:value 1:run 2:following -/
abbrev s_is_sequence : Stmt := topS 10
theorem sc_is_sequence : FnScope ["value", "run", "following"] ["value"] (defScope s_is_sequence) := ⟨rfl, rfl, rfl, by decide +kernel, rfl, by decide +kernel, by decide +kernel⟩
def sp_is_sequence : Sp := fun vs H Q _ => ∃ (v : V) (rs : List Run), vs = [v] ∧ RunsG H v rs ∧ SeqOk rs ∧ ∀ H', Same H H' → Q (.bl true) H'
theorem ok_is_sequence (D : Df K mg "is_sequence" s_is_sequence) (T : Tx mg) (G_is_listed : Has P w K mg base 1 "is_listed" ["value", "most"] sp_is_listed) (G_is_run : Has P w K mg base 3 "is_run" ["value"] sp_is_run) :
    Has P w K mg base 4 "is_sequence" ["value"] sp_is_sequence := by
  refine has_of D sc_is_sequence (fun _ _ _ _ _ _ us hl => match us, hl with | [_], _ => rfl) (fun vs H Q E h => ?_) (fun f cdv A outer s H vs Q E hr h => ?_)
  · obtain ⟨v, r, rfl, _⟩ := h
    rfl
  · obtain ⟨v, rs, rfl, ⟨a, xs, rfl, hx, hp⟩, ⟨l4, rok, alt⟩, q⟩ := h
    have lx : xs.length = rs.length := Paired.len hp
    refine ⟨_, (pss_cons (ps_if (PW.pt (pw_or (pt_not (pt_val (pe_callH G_is_listed (hr.mono (by omega)) (by rfl) (pa_cons (pv 0) (pa_cons (pe_glI T.c_MAX_RUNS (by rfl)) pa_nil))))) (pw_or1 (pt_not (pt_val (pe_callB (cr_all rfl) (by rfl) T.n_all (by decide +kernel) (pa_cons (pe_lc (own := [("run", 1)]) rfl sc_is_sequence.nd (pi_seqV 0) (blkOk_by (N := ["value", "run", "following"]) (sc := defScope s_is_sequence) (by decide +kernel)) (fun _ _ _ _ _ => (pg_name (i := 1) sc_is_sequence.nd rfl (by first | exact Or.inl rfl | exact Or.inr rfl))) (fun _ _ _ _ _ => pts_nil) (fun _ _ _ _ _ => (pe_callH G_is_run (hr.mono (by omega)) (by rfl) (pa_cons (pv 1) pa_nil)))) pa_nil))))))) (pss_one (ps_ret pe_bl)) pss_nil)
    (pss_one (ps_ret (pe_callB (cr_all rfl) (by rfl) T.n_all (by decide +kernel) (pa_cons (pe_lc (own := [("run", 1), ("following", 2)]) rfl sc_is_sequence.nd (pi_zip1 (i := 0) (RZ.pi_zipA (by rfl) T.n_zip (pa_cons (pv 0) (pa_cons (pe_slice (SlR.or sl_list sl_tupA) (pv 0) (po_some pe_int) po_none) pa_nil))) (fun _ _ _ q => ⟨1, rfl, q⟩) (fun _ _ _ q => q)) (blkOk_by (N := ["value", "run", "following"]) (sc := defScope s_is_sequence) (by decide +kernel)) (fun _ _ _ _ _ => (pg_tupK (K := K) (n := 2) rfl rfl (pgs_cons (pg_name (i := 1) sc_is_sequence.nd rfl (by first | exact Or.inl rfl | exact Or.inr rfl)) (pgs_cons (pg_name (i := 2) sc_is_sequence.nd rfl (by first | exact Or.inl rfl | exact Or.inr rfl)) pgs_nil)))) (fun _ _ _ _ _ => pts_nil) (fun _ _ _ _ _ => (pe_cmpR op_ne (pe_ix (ix_seqK (K := K) rfl) (pv 1) pe_int (fun _ _ => rfl)) (pe_ix (ix_seqK (K := K) rfl) (pv 2) pe_int (fun _ _ => rfl)) (nomark _)))) pa_nil))))), ?_⟩
    refine ⟨_, rfl, a, xs, 400, rfl, hx, fun H1 s1 => ⟨_, rfl, iteN ?_ ?_⟩⟩
    · show (!decide ((xs.length : Int) ≤ 400)) = false
      rw [decide_eq_true (by omega)]
      rfl
    refine ⟨a, xs, rfl, hx.same s1, fun J wk L nL => lc_wk wk (fun i H' => Same H1 H' ∧ H' L = some (.lst ((List.replicate i true).map V.bl))) (fun _ _ p => p.1) ⟨same_upd nL, upd_same⟩ (fun i x H2 ex p => ?_) (fun H2 p => ?_)⟩
    · obtain ⟨sm, hL⟩ := p
      obtain ⟨r, er, hr1⟩ := Paired.at hp ex
      have hi : i < xs.length := (List.getElem?_eq_some_iff.mp ex).1
      refine ⟨rfl, yesT ⟨_, rfl, x, r, rfl, RunG.same (s1.trans sm) hr1, rok r (List.mem_of_getElem? er), fun H3 s3 => ⟨_, s3 _ _ hL, ?_, same_grow nL (sm.trans s3), ?_⟩⟩⟩
      · simp only [List.length_map, List.length_replicate]
        exact small (by omega)
      · rw [upd_same, List.replicate_succ', List.map_append]
        rfl
    · refine ⟨L, _, rfl, .of p.2, _, rfl, iteN ?_ ?_⟩
      · rw [all_rep]
        rfl
      have s2 : Same H H2 := s1.trans p.1
      refine ⟨a, xs, rfl, hx.same s2, fun J Hc sc wk M nM => ?_⟩
      have sA : Same H Hc := s2.trans sc
      refine lc_gen (n := xs.length - 1) (fun i H' => Same Hc H' ∧ H' M = some (.lst ((List.replicate i true).map V.bl))) ⟨same_upd nM, upd_same⟩ (fun i H' hi p => wk.go i H' p.1 (by omega)) (fun H' p => wk.stop H' p.1) (fun i x H3 H4 hi p y => ?_) (fun H' p => ?_)
      · obtain ⟨T', x1, x2, rfl, nT, rfl, g1, g2⟩ := wk.yld i x H3 H4 p.1 y
        obtain ⟨sm, hM⟩ := p
        have g2 := g2 (by omega)
        have sB : Same H H3 := sA.trans sm
        obtain ⟨r1, e1, v1⟩ := Paired.at hp g1
        obtain ⟨r2, e2, v2⟩ := Paired.at hp g2
        obtain ⟨t1, rfl, w1⟩ := RunG.same (sB.trans (same_upd (o := .tup [x1, x2]) nT)) v1
        obtain ⟨t2, rfl, w2⟩ := RunG.same (sB.trans (same_upd (o := .tup [_, x2]) nT)) v2
        refine ⟨T', _, rfl, .of upd_same, rfl, _, _, rfl, _, _, rfl, rfl, rfl, yesT ?_⟩
        refine ⟨_, rfl, ix0 w1 ⟨_, rfl, ix0 w2 ⟨rfl, _, same_upd nT _ _ hM, ?_, same_grow nM (sm.trans (same_upd nT)), ?_⟩⟩⟩
        · simp only [List.length_map, List.length_replicate]
          exact small (by omega)
        · rw [upd_same, List.replicate_succ', List.map_append]
          have ne : (!decide (V.str r1.1 = V.str r2.1)) = true := by
            rw [decide_eq_false (fun z => alt i r1 r2 e1 e2 (V.str.inj z))]
            rfl
          rw [ne]
          rfl
      · refine ⟨M, _, rfl, .of p.2, ?_⟩
        rw [all_rep]
        exact q _ (sA.trans p.1)
end
end UP

set_option Elab.async false
set_option linter.all false
set_option maxRecDepth 100000
set_option maxHeartbeats 4000000
namespace UP
open PySem PySem.Spec PyProof.Rows L2
section
variable {P : Program} {w : World} {K : PySem.W.Frag} {mg : Str → Option Value} {base : Heap}
def lenR (rs : List Run) : Int := (rs.map (·.2)).sum
end
end UP

set_option Elab.async false
set_option linter.all false
set_option maxRecDepth 100000
set_option maxHeartbeats 4000000
namespace UP
open PySem PySem.Spec PyProof.Rows L2
/-! ### the mirror of cut -/
theorem lenR_nil : lenR [] = 0 := rfl
theorem lenR_cons (r : Run) (l : List Run) : lenR (r :: l) = r.2 + lenR l := by
  unfold lenR
  rw [List.map_cons, List.sum_cons]
theorem lenR_app (l m : List Run) : lenR (l ++ m) = lenR l + lenR m := by
  induction l with
  | nil => rw [List.nil_append, lenR_nil]; omega
  | cons r t ih => rw [List.cons_append, lenR_cons, lenR_cons, ih]; omega
theorem lenR_snoc (l : List Run) (r : Run) : lenR (l ++ [r]) = lenR l + r.2 := by
  rw [lenR_app, lenR_cons, lenR_nil]
  omega
def sizeR (b s e c : Int) : Int := (if b + c < e then b + c else e) - (if b > s then b else s)
def pieceR (b s e : Int) (r : Run) : List Run := if 0 < sizeR b s e r.2 then [(r.1, sizeR b s e r.2)] else []
def cutR (s e : Int) : Int → List Run → List Run
  | _, [] => []
  | b, r :: t => pieceR b s e r ++ cutR s e (b + r.2) t
theorem cutR_snoc (s e : Int) : ∀ (l : List Run) (b : Int) (r : Run), cutR s e b (l ++ [r]) = cutR s e b l ++ pieceR (b + lenR l) s e r
  | [], b, r => by
    show pieceR b s e r ++ [] = [] ++ pieceR (b + lenR []) s e r
    rw [lenR_nil, Int.add_zero, List.append_nil, List.nil_append]
  | x :: t, b, r => by
    show pieceR b s e x ++ cutR s e (b + x.2) (t ++ [r]) = (pieceR b s e x ++ cutR s e (b + x.2) t) ++ pieceR (b + lenR (x :: t)) s e r
    rw [cutR_snoc s e t, lenR_cons, List.append_assoc, Int.add_assoc]
theorem pieceR_len (b s e : Int) (r : Run) : (pieceR b s e r).length ≤ 1 := by
  unfold pieceR
  split <;> simp
theorem cutR_len (s e : Int) : ∀ (l : List Run) (b : Int), (cutR s e b l).length ≤ l.length
  | [], _ => Nat.le_refl _
  | r :: t, b => by
    show (pieceR b s e r ++ cutR s e (b + r.2) t).length ≤ (r :: t).length
    have h1 := pieceR_len b s e r
    have h2 := cutR_len s e t (b + r.2)
    rw [List.length_append, List.length_cons]
    omega
section
variable {P : Program} {w : World} {K : PySem.W.Frag} {mg : Str → Option Value} {base : Heap}
end
end UP

set_option Elab.async false
set_option linter.all false
set_option maxRecDepth 100000
set_option maxHeartbeats 4000000
namespace UP
open PySem PySem.Spec PyProof.Rows L2
/-! ### the mirror of the states -/
def numR : Option Run → Int
  | none => 0
  | some r => r.2
def leavR : Option Run → Str → Int → Int
  | none, _, _ => 0
  | some r, k, c => if r.1 = k then 0 else if c < r.2 then c else r.2
def stepR : Option Run → Str → Int → Option Run
  | some r, k, c => if r.1 = k then some (k, r.2 + c) else if 0 < r.2 - c then some (r.1, r.2 - c) else if r.2 - c = 0 then none else some (k, -(r.2 - c))
  | none, k, c => some (k, c)
def withR (k : Str) (n : Int) : Option Run := if n = 0 then none else some (k, n)
def stR (rs : List Run) (st : Option Run) : Option Run := rs.foldl (fun s r => stepR s r.1 r.2) st
theorem stR_snoc (l : List Run) (r : Run) (st : Option Run) : stR (l ++ [r]) st = stepR (stR l st) r.1 r.2 := by
  unfold stR
  rw [List.foldl_append]
  rfl
section
variable {P : Program} {w : World} {K : PySem.W.Frag} {mg : Str → Option Value} {base : Heap}
end
end UP

set_option Elab.async false
set_option linter.all false
set_option maxRecDepth 100000
set_option maxHeartbeats 4000000
namespace UP
open PySem PySem.Spec PyProof.Rows L2
def DfD (K : PySem.W.Frag) (mg : Str → Option Value) (x : Str) (st : Stmt) (dvs : List V) : Prop := ∃ f fd, mg x = some (.ref f) ∧ FunD K x x (defArgs st) (defBody st) (defScope st) dvs [] f fd
/-- a def whose last parameter, kw, has the default None -/
def HasD (P : Program) (w : World) (K : PySem.W.Frag) (mg : Str → Option Value) (base : Heap) (k : Nat) (x : Str) (ps : List Str) (n : Nat) (kw : Str) (sp : Sp) : Prop :=
  ∃ f fd, mg x = some (.ref f) ∧ PySem.W.keepIn K (.ref f) = true ∧ Binds K fd ps [] ∧ (∃ ds, Vals [.non] ds ∧ Binds K fd ps ds) ∧ KBn K fd ps n [kw] (fun us ws => us ++ ws) (fun vs zs => vs ++ zs) ∧ FnOk P w K mg base CX0 k f fd ps sp
section
variable {P : Program} {w : World} {K : PySem.W.Frag} {mg : Str → Option Value} {base : Heap}
theorem HasD.has {k n : Nat} {x kw : Str} {ps : List Str} {sp : Sp} (h : HasD P w K mg base k x ps n kw sp) : Has P w K mg base k x ps sp := by
  obtain ⟨f, fd, g, kp, b, _, _, F⟩ := h
  exact ⟨f, fd, g, kp, b, F⟩
theorem has_ofD {x kw : Str} {st : Stmt} {ps N : List Str} {k n : Nat} {sp : Sp} (D : DfD K mg x st [.non]) (S : FnScope N ps (defScope st)) (hpn : ps.length = n + 1)
    (hb : ∀ (T : Addr) (kV doc pm : Value) (an : Option Addr) (cdv ct : Value) (us its : List Value), us.length = n + 1 → its.length = 1 →
      ∃ k, bindArgs (PySem.W.fnOf x x (defArgs st) (defBody st) (defScope st) (.ref T) kV doc pm an cdv ct) ⟨us, []⟩ = seqItems? (.ref T) >>= k ∧ k (some its.toArray) = pure (ps.zip us))
    (hb1 : ∀ (T : Addr) (kV doc pm : Value) (an : Option Addr) (cdv ct : Value) (us its : List Value), us.length = n → its.length = 1 →
      ∃ k, bindArgs (PySem.W.fnOf x x (defArgs st) (defBody st) (defScope st) (.ref T) kV doc pm an cdv ct) ⟨us, []⟩ = seqItems? (.ref T) >>= k ∧ k (some its.toArray) = pure (ps.zip (us ++ its)))
    (hb2 : ∀ (T : Addr) (kV doc pm : Value) (an : Option Addr) (cdv ct : Value) (us its : List Value) (v : Value), us.length = n → its.length = 1 →
      ∃ k, bindArgs (PySem.W.fnOf x x (defArgs st) (defBody st) (defScope st) (.ref T) kV doc pm an cdv ct) ⟨us, [(kw, v)]⟩ = seqItems? (.ref T) >>= k ∧ k (some its.toArray) = pure (ps.zip (us ++ [v])))
    (len : ∀ vs H Q E, sp vs H Q E → vs.length = ps.length)
    (body : ∀ (f : Addr) (cdv : Value) (A : Around) (outer : List Env) (s : Shared) (H : Hp) (vs : List V) (Q : VK) (E : XK), Room k (A.deeper (envOfC x (defScope st) s.heap.objs.size f cdv)) → sp vs H Q E →
      ∃ t, PSs (cxOf CX0 P w K mg base N x (defScope st) f cdv A outer s H E).nox (defBody st) t ∧ t { nx := fun _ H' => Q .non H', rt := Q } (start N vs) H) :
    HasD P w K mg base (k + 1) x ps n kw sp := by
  obtain ⟨f, fd, g, F⟩ := D
  have B0 : Binds K fd ps [] := by
    obtain ⟨ds, v, b⟩ := F.binds1 (n + 1) 1 (ps := ps) (by intro z; cases z) (by rw [hpn]; rfl) fun T kV doc pm an cdv ct us its h1 h2 => by
      obtain ⟨k, e1, e2⟩ := hb T kV doc pm an cdv ct us its h1 h2
      refine ⟨k, e1, ?_⟩
      have h3 : its.length ≤ 1 := Nat.le_of_eq h2
      rw [e2, List.drop_of_length_le h3, List.append_nil]
    cases v
    exact b
  have B1 : ∃ ds, Vals [V.non] ds ∧ Binds K fd ps ds := by
    obtain ⟨ds, v, b⟩ := F.binds1 n 0 (ps := ps) (by intro z; cases z) (by rw [hpn]; rfl) fun T kV doc pm an cdv ct us its h1 h2 => by
      obtain ⟨k, e1, e2⟩ := hb1 T kV doc pm an cdv ct us its h1 h2
      exact ⟨k, e1, by rw [e2, List.drop_zero]⟩
    exact ⟨ds, v, b⟩
  have B2 : KBn K fd ps n [kw] (fun us ws => us ++ ws) (fun vs zs => vs ++ zs) := by
    refine ⟨fun s us ws X l1 l2 => ?_, fun r1 r2 => r1.append r2⟩
    obtain ⟨oc, od, dV, kV, doc, pm, an, cdv, ct, osl, rfl, lk, hcd, hD, _⟩ := F.ex
    rcases hD with ⟨z, _⟩ | ⟨_, T, o, its, m, rfl, lT, oT, rT⟩
    · cases z
    · match ws, l2 with
      | [v], _ =>
        obtain ⟨k, e1, e2⟩ := hb2 T kV doc pm an cdv ct us its v l1 rT.length.symm
        refine BindsTo.of_looks fun M => ?_
        show PySem.W.Looks M s.heap (bindArgs _ ⟨us, [(kw, v)]⟩) _
        rw [e1]
        exact looks_items X lT oT (.of_pure e2)
  refine ⟨f, fd, g, F.kp, B0, B1, B2, F.ok S len fun cdv A outer s H vs Q E hr h => ?_⟩
  obtain ⟨t, p, q⟩ := body f cdv A outer s H vs Q E hr h
  exact ⟨t, p.nox, q⟩
end
section
variable {X : Cx}
/-- the default taken -/
theorem pe_callDH {k n : Nat} {x kw : Str} {ps : List Str} {sp : Sp} {p pos : Pos} {e : Expr} {es : List Expr} {t : TA} (G : HasD X.prog X.w X.K X.mg X.base k x ps n kw sp) (hr : Room k X.A) (hg : Gl X x) (ha : PA X (e :: es) t)
    (hdb : (x == ("__debug__" : Str)) = false := by decide) (he : starEach (e :: es) X.env = (false, eval e X.env) :: starEach es X.env := by rfl) (hpl : (backTo pos (starEach es X.env)).any (·.1) = false := by rfl) :
    PE X (.Call (.Name x p) (e :: es) [] pos) (tCall sp [.non] E0 t) := by
  obtain ⟨f, fd, g, kp, _, ⟨ds, v, b⟩, _, F⟩ := G
  exact pe_call F hr hg g kp b v pass0 ha hdb he hpl
/-- the last one by its name -/
theorem pe_callNH {k n : Nat} {x kw : Str} {ps : List Str} {sp : Sp} {p pos : Pos} {e : Expr} {es : List Expr} {kws : List Keyword} {t tk : TA} (G : HasD X.prog X.w X.K X.mg X.base k x ps n kw sp) (hr : Room k X.A) (hg : Gl X x) (ha : PA X (e :: es) t) (hk : PK X kws tk)
    (h1 : (backToKw pos (keywordEach kws X.env)).all (·.1.isSome) = true := by rfl) (h2 : (backToKw pos (keywordEach kws X.env)).filterMap (·.1) = [kw] := by rfl) (hdb : (x == ("__debug__" : Str)) = false := by decide)
    (he : starEach (e :: es) X.env = (false, eval e X.env) :: starEach es X.env := by rfl) (hpl : ((backTo pos (starEach (e :: es) X.env)).any (·.1) || (backToKw pos (keywordEach kws X.env)).any (·.1.isNone)) = false := by rfl) :
    PE X (.Call (.Name x p) (e :: es) kws pos) (tCallN n 1 sp (fun vs zs => vs ++ zs) E0 t tk) := by
  obtain ⟨f, fd, g, kp, _, _, b, F⟩ := G
  exact pe_callN F hr hg g kp b pass0 ha hk h1 h2 hdb he hpl
end
section
variable {P : Program} {w : World} {K : PySem.W.Frag} {mg : Str → Option Value} {base : Heap}
theorem SeqOk.pos {rs : List Run} (h : SeqOk rs) : ∀ r ∈ rs, 1 ≤ r.2 := fun r m => (h.2.1 r m).2.1
theorem pieceR_pos {b s e : Int} {r x : Run} (h : x ∈ pieceR b s e r) : 1 ≤ x.2 := by
  unfold pieceR at h
  split at h
  · rename_i z
    simp only [List.mem_singleton] at h
    subst h
    show 1 ≤ sizeR b s e r.2
    omega
  · cases h
theorem cutR_pos {s e : Int} : ∀ {l : List Run} {b : Int}, ∀ x ∈ cutR s e b l, 1 ≤ x.2
  | [], _, x, h => by cases h
  | r :: t, b, x, h => by
    rcases List.mem_append.mp (show x ∈ pieceR b s e r ++ cutR s e (b + r.2) t from h) with h | h
    · exact pieceR_pos h
    · exact cutR_pos x h
end
end UP

set_option Elab.async false
set_option linter.all false
set_option maxRecDepth 100000
set_option maxHeartbeats 4000000
namespace UP
open PySem PySem.Spec PyProof.Rows L2
section
variable {P : Program} {w : World} {K : PySem.W.Frag} {mg : Str → Option Value} {base : Heap}
/-! _law_draw: slots 0:spring 1:many 2:mix 3:found -/
abbrev s_law_draw : Stmt := topS 14
theorem sc_law_draw : FnScope ["spring", "many", "mix", "found"] ["spring", "many"] (defScope s_law_draw) := ⟨rfl, rfl, rfl, by decide +kernel, rfl, by decide +kernel, by decide +kernel⟩
def sp_law_draw : Sp := fun vs H Q _ => ∃ (sp : Addr) (m : Int), vs = [.ref sp, .int m] ∧ Spr H sp ∧ 1 ≤ m ∧ m.natAbs < 2 ^ 8000 ∧ ∀ H' r, But sp H H' → Spr H' sp → 0 ≤ r → r < m → Q (.int r) H'
theorem at30 {α : Type} {x y z : α} : atI [x, y, z] 0 = some x := rfl
theorem at31 {α : Type} {x y z : α} : atI [x, y, z] 1 = some y := rfl
theorem at32 {α : Type} {x y z : α} : atI [x, y, z] 2 = some z := rfl
theorem fdiv_le {d m : Int} (h0 : 0 ≤ d) (h1 : 1 ≤ m) : 0 ≤ d / m ∧ d / m ≤ d := by
  refine ⟨Int.ediv_nonneg h0 (by omega), ?_⟩
  have h := Int.ediv_le_self m h0
  exact h
theorem ok_law_draw (D : Df K mg "_law_draw" s_law_draw) (T : Tx mg) : Has P w K mg base 1 "_law_draw" ["spring", "many"] sp_law_draw := by
  refine has_of D sc_law_draw (fun _ _ _ _ _ _ us hl => match us, hl with | [_, _], _ => rfl) (fun vs H Q E h => ?_) (fun f cdv A outer s₀ H vs Q E hr h => ?_)
  · obtain ⟨a, rs, rfl, _⟩ := h
    rfl
  · obtain ⟨sp, m, rfl, ⟨d, s, c, hs, d0, d1, s0, s1⟩, m1, m2, q⟩ := h
    refine ⟨_, (pss_cons (ps_if (pt_cmpR op_gt (pe_ix ix_list (pv 0) pe_int (fun _ _ => rfl)) pe_int (nomark _)) (pss_cons (ps_set (i := 3) sc_law_draw.nd rfl (by first | exact Or.inl rfl | exact Or.inr rfl) (pe_op op_mod (pe_ix ix_list (pv 0) pe_int (fun _ _ => rfl)) (pv 1)))
    (pss_cons (ps_asg (pe_op op_fdivW (pe_ix ix_list (pv 0) pe_int (fun _ _ => rfl)) (pv 1)) (pg_sub (pv 0) pe_int set_list))
    (pss_one (ps_ret (pv 3))))) pss_nil)
    (pss_cons (ps_asg (pe_op op_add (pe_ix ix_list (pv 0) pe_int (fun _ _ => rfl)) pe_int) (pg_sub (pv 0) pe_int set_list))
    (pss_cons (ps_set (i := 2) sc_law_draw.nd rfl (by first | exact Or.inl rfl | exact Or.inr rfl) (pe_op op_mod (pe_op op_mul (pe_ix ix_list (pv 0) pe_int (fun _ _ => rfl)) (pe_ix ix_list (pv 0) pe_int (fun _ _ => rfl))) pe_int))
    (pss_cons (ps_asg (pe_op op_mod (pe_op op_add (pe_op op_add (pv 2) (pe_op op_mul (pe_op op_mul pe_int (pe_ix ix_list (pv 0) pe_int (fun _ _ => rfl))) (pe_ix ix_list (pv 0) pe_int (fun _ _ => rfl)))) pe_int) pe_int) (pg_sub (pv 0) pe_int set_list))
    (pss_one (ps_ret (pe_op op_mod (pe_op op_fdiv (pe_ix ix_list (pv 0) pe_int (fun _ _ => rfl)) pe_int) (pv 1)))))))), ?_⟩
    refine ⟨_, rfl, sp, _, 0, _, rfl, rfl, .of hs, at30, _, _, rfl, rfl, _, rfl, ?_⟩
    by_cases e : 0 < d
    · refine iteP (decide_eq_true e) ?_
      refine ⟨_, rfl, sp, _, 0, _, rfl, rfl, .of hs, at30, _, rfl, _, _, rfl, rfl, (by omega), ?_⟩
      refine ⟨_, rfl, sp, _, 0, _, rfl, rfl, .of hs, at30, _, rfl, _, _, rfl, rfl, wide_div (by omega) m2 (by decide) (by decide), ?_⟩
      refine ⟨_, rfl, sp, _, 0, 0, rfl, rfl, hs, rfl, _, rfl, q _ _ but_upd ⟨d / m, s, c, upd_same, ?_, ?_, s0, s1⟩ (Int.emod_nonneg _ (by omega)) (Int.emod_lt_of_pos _ (by omega))⟩
      · exact (fdiv_le d0 m1).1
      · have := fdiv_le d0 m1
        exact Nat.lt_of_le_of_lt (by omega) d1
    · refine iteN (decide_eq_false e) ?_
      refine ⟨_, rfl, sp, _, 2, _, rfl, rfl, .of hs, at32, _, _, rfl, rfl, ?_⟩
      refine ⟨_, rfl, sp, _, 2, 2, rfl, rfl, hs, rfl, ?_⟩
      have h2 : (upd H sp (.lst [.int d, .int s, .int (c + 1)])) sp = some (.lst [.int d, .int s, .int (c + 1)]) := upd_same
      refine ⟨_, rfl, sp, _, 1, _, rfl, rfl, .of h2, at31, _, rfl, sp, _, 1, _, rfl, rfl, .of h2, at31, _, _, rfl, rfl, .inl ⟨by omega, by omega⟩, _, _, rfl, rfl, (by show (0 : Int) < 2305843009213693951; decide), ?_⟩
      refine ⟨_, rfl, _, rfl, sp, _, 2, _, rfl, rfl, .of h2, at32, _, _, rfl, rfl, .inl ⟨by decide, by decide⟩, _, rfl, sp, _, 1, _, rfl, rfl, .of h2, at31, _, _, rfl, rfl, .inr ⟨by omega, by omega⟩, _, _, rfl, rfl, _, _, rfl, rfl, _, _, rfl, rfl, (by show (0 : Int) < 2305843009213693951; decide), ?_⟩
      refine ⟨_, rfl, sp, _, 1, 1, rfl, rfl, h2, rfl, ?_⟩
      have h3 : ∀ z : Int, (upd (upd H sp (.lst [.int d, .int s, .int (c + 1)])) sp (.lst [.int d, .int z, .int (c + 1)])) sp = some (.lst [.int d, .int z, .int (c + 1)]) := fun z => upd_same
      refine ⟨_, rfl, sp, _, 1, _, rfl, rfl, .of (h3 _), at31, _, _, rfl, rfl, ⟨by decide, by decide⟩, _, rfl, _, _, rfl, rfl, (by omega), ?_⟩
      refine q _ _ (but_upd.trans but_upd) ⟨d, _, _, h3 _, d0, d1, Int.emod_nonneg _ (by decide), Int.emod_lt_of_pos _ (by decide)⟩ (Int.emod_nonneg _ (by omega)) (Int.emod_lt_of_pos _ (by omega))
end
end UP

set_option Elab.async false
set_option linter.all false
set_option maxRecDepth 100000
set_option maxHeartbeats 4000000
namespace UP
open PySem PySem.Spec PyProof.Rows L2
/-! ### data -/
def dRun (r : Run) : PyData := .tuple [.str r.1, .int r.2]
theorem dp_run {K : PySem.W.Frag} {H : Hp} {v : V} {r : Run} (h : RunV H v r) : Dp K H v (dRun r) := by
  obtain ⟨t, rfl, h⟩ := h
  exact .tup (.of h) (.cons (.str _) (.cons (.int _) .nil))
theorem dp_all {K : PySem.W.Frag} {H : Hp} : ∀ {xs : List V} {rs : List Run}, Paired (RunV H) xs rs → DpAll K H xs (rs.map dRun)
  | _, _, .nil => .nil
  | _, _, .cons h t => .cons (dp_run h) (dp_all t)
theorem KindOk.str {s : Str} (h : KindOk s) : PyData.strOk s = true := by
  unfold PyData.strOk
  rw [Array.all_eq_true']
  intro c hc
  have := h.2.2 c (by simpa using hc)
  exact decide_eq_true (by omega)
theorem can_run {r : Run} (h : KindOk r.1) : (dRun r).canLay0 = true := by
  simp [dRun, PyData.canLay0, PyData.canLayAll0, h.str]
theorem can_runs : ∀ {rs : List Run}, (∀ r ∈ rs, KindOk r.1) → PyData.canLayAll0 (rs.map dRun) = true
  | [], _ => by simp [PyData.canLayAll0]
  | r :: t, h => by
    rw [List.map_cons, PyData.canLayAll0, can_run (h r (List.mem_cons_self ..)), can_runs fun x hx => h x (List.mem_cons_of_mem _ hx)]
    rfl
theorem depth_run (r : Run) : (dRun r).depth ≤ 2 := by
  simp [dRun, PyData.depth, PyData.depthAll]
theorem depth_runs : ∀ (rs : List Run), PyData.depthAll (rs.map dRun) ≤ 2
  | [] => by simp [PyData.depthAll]
  | r :: t => by
    rw [List.map_cons, PyData.depthAll]
    exact Nat.max_le.mpr ⟨depth_run r, depth_runs t⟩
theorem shaped_runs {rs : List Run} (h : ∀ r ∈ rs, KindOk r.1) : SeqAt.shaped (.list (rs.map dRun)) = true := by
  unfold SeqAt.shaped
  rw [PyData.canLay0, can_runs h, PyData.depth]
  have := depth_runs rs
  exact decide_eq_true (by omega)
theorem shaped_run {r : Run} (h : KindOk r.1) : SeqAt.shaped (dRun r) = true := by
  unfold SeqAt.shaped
  rw [can_run h]
  have := depth_run r
  exact decide_eq_true (by omega)
theorem shaped_nil : SeqAt.shaped (.list []) = true := by decide
theorem eqv_nil (rs : List Run) : PyData.eqv (.list (rs.map dRun)) (.list []) = rs.isEmpty := by
  cases rs with
  | nil => simp [PyData.eqv, PyData.eqvAll]
  | cons r t => simp [PyData.eqv, PyData.eqvAll]
theorem sb {sp : Addr} {H H' : Hp} (h : Same H H') : But sp H H' := fun b o _ e => h b o e
theorem But.free {sp : Addr} {H H' : Hp} (b : But sp H H') (z : Spr H' sp) {p : Addr} (h : H' p = none) : H p = none := by
  by_cases e : p = sp
  · subst e
    obtain ⟨_, _, _, h1, _⟩ := z
    rw [h1] at h
    cases h
  · cases q : H p with
    | none => rfl
    | some o =>
      rw [b p o e q] at h
      cases h
theorem Spr.ne {sp p : Addr} {H : Hp} (z : Spr H sp) (h : H p = none) : p ≠ sp := by
  obtain ⟨_, _, _, h1, _⟩ := z
  exact fun e => by rw [e, h1] at h; cases h
instance (s : Str) : Decidable (KindOk s) := by
  unfold KindOk
  infer_instance
section
variable {P : Program} {w : World} {K : PySem.W.Frag} {mg : Str → Option Value} {base : Heap}
/-! _law_spring: slots 0:script 1:digits 2:seed 3:cell -/
abbrev s_law_spring : Stmt := topS 13
theorem sc_law_spring : FnScope ["script", "digits", "seed", "cell"] ["script"] (defScope s_law_spring) := ⟨rfl, rfl, rfl, by decide +kernel, rfl, by decide +kernel, by decide +kernel⟩
def sp_law_spring (K : PySem.W.Frag) : Sp := fun vs H Q _ => ∃ (a : Addr) (ns : List Int), vs = [.ref a] ∧ SqL K H a (ns.map V.int) ∧ ns.length ≤ 63 ∧ ∀ H' p, Same H H' → H p = none → Spr H' p → Q (.ref p) H'
theorem pow60 : (10 : Int) ^ ((60 : Int).toNat) = 1000000000000000000000000000000000000000000000000000000000000 := by decide +kernel
theorem pow200 (i : Nat) : 2 ^ (200 * (i + 1)) = 2 ^ (200 * i) * 1606938044258990275541962092341162602522202993782792835301376 := by
  rw [Nat.mul_add, Nat.pow_add]
theorem spring_step {d x : Int} {i : Nat} (h0 : 0 ≤ d) (h1 : d.natAbs < 2 ^ (200 * i)) : 0 ≤ d * (10 : Int) ^ ((60 : Int).toNat) + x % (10 : Int) ^ ((60 : Int).toNat) ∧ (d * (10 : Int) ^ ((60 : Int).toNat) + x % (10 : Int) ^ ((60 : Int).toNat)).natAbs < 2 ^ (200 * (i + 1)) := by
  rw [pow60, pow200]
  generalize 2 ^ (200 * i) = B at h1 ⊢
  have m0 := Int.emod_nonneg x (show (1000000000000000000000000000000000000000000000000000000000000 : Int) ≠ 0 by decide)
  have m1 := Int.emod_lt_of_pos x (show (0 : Int) < 1000000000000000000000000000000000000000000000000000000000000 by decide)
  generalize x % 1000000000000000000000000000000000000000000000000000000000000 = y at m0 m1 ⊢
  omega
theorem ok_law_spring (D : Df K mg "_law_spring" s_law_spring) (T : Tx mg) : Has P w K mg base 1 "_law_spring" ["script"] (sp_law_spring K) := by
  refine has_of D sc_law_spring (fun _ _ _ _ _ _ us hl => match us, hl with | [_], _ => rfl) (fun vs H Q E h => ?_) (fun f cdv A outer s₀ H vs Q E hr h => ?_)
  · obtain ⟨a, rs, rfl, _⟩ := h
    rfl
  · obtain ⟨a, ns, rfl, hS, l63, q⟩ := h
    refine ⟨_, (pss_cons (ps_set (i := 1) sc_law_spring.nd rfl (by first | exact Or.inl rfl | exact Or.inr rfl) pe_int)
    (pss_cons (ps_set (i := 2) sc_law_spring.nd rfl (by first | exact Or.inl rfl | exact Or.inr rfl) pe_int)
    (pss_cons (ps_for PassesOwn.never rfl (pi_list (pe_slice sl_list (pv 0) po_none (po_some pe_int))) (pg_name (i := 3) sc_law_spring.nd rfl (by first | exact Or.inl rfl | exact Or.inr rfl))
      (C8.pss_cut (ps_if (pt_cmpR op_ge (pe_callB call_abs (by rfl) T.n_abs (by decide +kernel) (pa_cons (pv 3) pa_nil)) (pe_op op_pow pe_int pe_int) (nomark _)) (pss_one (ps_set (i := 1) sc_law_spring.nd rfl (by first | exact Or.inl rfl | exact Or.inr rfl) (pe_op op_add (pe_op op_mulW (pv 1) (pe_op op_pow pe_int pe_int)) (pe_op op_mod (pe_callB call_abs (by rfl) T.n_abs (by decide +kernel) (pa_cons (pv 3) pa_nil)) (pe_op op_pow pe_int pe_int))))) pss_nil)
    (pss_one (ps_set (i := 2) sc_law_spring.nd rfl (by first | exact Or.inl rfl | exact Or.inr rfl) (pe_op op_mod (pe_op op_add (pe_op op_add (pe_op op_mul (pv 2) pe_int) (pe_op op_mod (pv 3) pe_int)) pe_int) pe_int)))))
    (pss_one (ps_ret (pe_lst (pa_cons (pv 1) (pa_cons (pv 2) (pa_cons pe_int pa_nil))))))))), ?_⟩
    refine ⟨_, rfl, _, rfl, a, _, rfl, hS, fun c nc => ?_⟩
    obtain ⟨ms, em, lm⟩ : ∃ ms : List Int, cutV (ns.map V.int) none (some 63) = ms.map V.int ∧ ms.length ≤ 63 := by
      refine ⟨_, by unfold cutV; rw [← List.map_drop, ← List.map_take], ?_⟩
      rw [List.length_take, List.length_drop]
      omega
    rw [em]
    have sc : Same H (upd H c (.lst (ms.map V.int))) := same_upd nc
    refine ⟨c, rfl, ⟨_, .of upd_same⟩, for_list (K := K) (a := c) (xs := ms.map V.int) (fun i σ H' => ∃ d s y3, σ = [some (.ref a), some (.int d), some (.int s), y3] ∧ H' = upd H c (.lst (ms.map V.int)) ∧ 0 ≤ d ∧ d.natAbs < 2 ^ (200 * i) ∧ 0 ≤ s ∧ s < 2305843009213693951)
      ⟨0, 88651, none, rfl, rfl, by decide, by decide, by decide, by decide⟩ (fun i σ H' _ hP => ?_) (fun i x σ H4 ex hP => ?_) (fun σ H4 hP => ?_)⟩
    · obtain ⟨_, _, _, _, rfl, _⟩ := hP
      exact .of upd_same
    · obtain ⟨d, s, y3, rfl, rfl, d0, d1, s0, s1⟩ := hP
      rw [List.getElem?_map] at ex
      cases e : ms[i]? with
      | none =>
        rw [e] at ex
        cases ex
      | some n =>
        rw [e] at ex
        have ex := Option.some.inj ex
        subst ex
        refine ⟨fun σ' H' => ∃ d', σ' = [some (.ref a), some (.int d'), some (.int s), some (.int n)] ∧ H' = upd H c (.lst (ms.map V.int)) ∧ 0 ≤ d' ∧ d'.natAbs < 2 ^ (200 * (i + 1)), ?_, fun σ' H5 hM => ?_⟩
        · refine ⟨_, rfl, n, rfl, _, _, rfl, rfl, ⟨by decide, by decide, by decide⟩, _, _, rfl, rfl, _, rfl, ite2 (fun _ => ?_) (fun _ => ?_)⟩
          · refine ⟨_, rfl, _, _, rfl, rfl, ⟨by decide, by decide, by decide⟩, _, _, rfl, rfl, wide_mul (a := 200 * i + 1) (b := 200) (Nat.lt_of_lt_of_le d1 (Nat.pow_le_pow_right (by decide) (by omega))) (by rw [pow60]; decide) (by omega) (by decide) ?_, ?_⟩
            · have : i < ms.length := (List.getElem?_eq_some_iff.mp e).1
              omega
            · refine ⟨_, rfl, n, rfl, _, _, rfl, rfl, ⟨by decide, by decide, by decide⟩, _, _, rfl, rfl, (by show (0 : Int) < 10 ^ ((60 : Int).toNat); rw [pow60]; decide), _, _, rfl, rfl, ?_⟩
              exact ⟨_, rfl, rfl, (spring_step d0 d1).1, (spring_step d0 d1).2⟩
          · refine ⟨d, rfl, rfl, d0, Nat.lt_of_lt_of_le d1 (Nat.pow_le_pow_right (by decide) (by omega))⟩
        · obtain ⟨d', rfl, rfl, d0', d1'⟩ := hM
          refine ⟨_, rfl, _, _, rfl, rfl, .inr ⟨by decide, by decide⟩, _, rfl, _, _, rfl, rfl, (by show (0 : Int) < 2305843009213693921; decide), _, _, rfl, rfl, _, _, rfl, rfl, _, _, rfl, rfl, (by show (0 : Int) < 2305843009213693951; decide), ?_⟩
          exact ⟨d', _, _, rfl, rfl, d0', d1', Int.emod_nonneg _ (by decide), Int.emod_lt_of_pos _ (by decide)⟩
    · obtain ⟨d, s, y3, rfl, rfl, d0, d1, s0, s1⟩ := hP
      refine ⟨_, rfl, _, rfl, (by show 3 ≤ sizeLine; decide), fun p np => q _ p (sc.trans (same_upd np)) (sc.free np) ⟨d, s, 0, upd_same, d0, Nat.lt_of_lt_of_le d1 (Nat.pow_le_pow_right (by decide) ?_), s0, s1⟩⟩
      rw [List.length_map]
      omega
/-! _law_state: slots 0:spring 1:longest 2:kind -/
abbrev s_law_state : Stmt := topS 17
theorem sc_law_state : FnScope ["spring", "longest", "kind"] ["spring", "longest"] (defScope s_law_state) := ⟨rfl, rfl, rfl, by decide +kernel, rfl, by decide +kernel, by decide +kernel⟩
def sp_law_state : Sp := fun vs H Q _ => ∃ (sp : Addr) (m : Int), vs = [.ref sp, .int m] ∧ Spr H sp ∧ 1 ≤ m ∧ m.natAbs < 2 ^ 8000 ∧ ∀ H' v st, But sp H H' → Spr H' sp → StV H' v st → StOk st → (∀ r, st = some r → r.2 ≤ m) → Q v H'
def nine : List Str := ["a", "b", "c", "ab", "zz", "abcdefgh", "aa", "z", "other"]
theorem nine_ok : ∀ s ∈ nine, KindOk s := by decide +kernel
theorem atI_of {α : Type} {l : List α} {i : Int} {x : α} (h0 : 0 ≤ i) (h : l[i.toNat]? = some x) : atI l i = some x := by
  have e : i = (i.toNat : Int) := by omega
  rw [e]
  exact atI_nat h
theorem ok_law_state (D : Df K mg "_law_state" s_law_state) (T : Tx mg) (G_law_draw : Has P w K mg base 1 "_law_draw" ["spring", "many"] sp_law_draw) : Has P w K mg base 2 "_law_state" ["spring", "longest"] sp_law_state := by
  refine has_of D sc_law_state (fun _ _ _ _ _ _ us hl => match us, hl with | [_, _], _ => rfl) (fun vs H Q E h => ?_) (fun f cdv A outer s₀ H vs Q E hr h => ?_)
  · obtain ⟨a, rs, rfl, _⟩ := h
    rfl
  · obtain ⟨sp, m, rfl, hz, m1, m2, q⟩ := h
    refine ⟨_, (pss_cons (ps_set (i := 2) sc_law_state.nd rfl (by first | exact Or.inl rfl | exact Or.inr rfl) (pe_ix ix_list (pe_lst (pa_cons pe_str (pa_cons pe_str (pa_cons pe_str (pa_cons pe_str (pa_cons pe_str (pa_cons pe_str (pa_cons pe_str (pa_cons pe_str (pa_cons pe_str pa_nil)))))))))) (pe_callH G_law_draw (hr.mono (by omega)) (by rfl) (pa_cons (pv 0) (pa_cons pe_int pa_nil))) (fun _ _ => rfl)))
    (pss_one (ps_ret (pe_ifExp (pt_cmpR op_eq (pe_callH G_law_draw (hr.mono (by omega)) (by rfl) (pa_cons (pv 0) (pa_cons pe_int pa_nil))) pe_int (nomark _)) pe_non (pe_tup (pa_cons (pv 2) (pa_cons (pe_op op_add pe_int (pe_callH G_law_draw (hr.mono (by omega)) (by rfl) (pa_cons (pv 0) (pa_cons (pv 1) pa_nil)))) pa_nil))))))), ?_⟩
    refine ⟨(by show 9 ≤ sizeLine; decide), fun l nl => ?_⟩
    have zl : Spr (upd H l (.lst (nine.map V.str))) sp := hz.same (same_upd nl)
    refine ⟨_, rfl, sp, 9, rfl, zl, by decide, by decide, fun H1 r b1 z1 r0 r1 => ?_⟩
    have nl2 : l ≠ sp := Spr.ne hz nl
    have hl : H1 l = some (.lst (nine.map V.str)) := b1 _ _ nl2 upd_same
    have hr9 : r.toNat < nine.length := by
      show r.toNat < 9
      omega
    have ek : (nine.map V.str)[r.toNat]? = some (.str nine[r.toNat]) := by
      rw [List.getElem?_map, List.getElem?_eq_getElem hr9]
      rfl
    have kk : KindOk nine[r.toNat] := nine_ok _ (List.getElem_mem hr9)
    generalize nine[r.toNat] = kd at ek kk
    refine ⟨l, _, r, _, rfl, rfl, .of hl, atI_of r0 ek, ?_⟩
    have bA : But sp H H1 := (sb (same_upd nl)).trans b1
    refine ⟨_, rfl, sp, 3, rfl, z1, by decide, by decide, fun H2 r2 b2 z2 r20 r21 => ⟨rfl, _, rfl, ?_⟩⟩
    by_cases e : r2 = 0
    · subst e
      exact iteP (decide_eq_true rfl) (q H2 _ none (bA.trans b2) z2 rfl (fun r h => by cases h) (fun r h => by cases h))
    · refine iteN (decide_eq_false fun z => e (V.int.inj z)) ?_
      refine ⟨_, rfl, _, rfl, _, rfl, sp, m, rfl, z2, m1, m2, fun H3 r3 b3 z3 r30 r31 => ⟨_, _, rfl, rfl, (by show 2 ≤ sizeLine; decide), fun t nt => ?_⟩⟩
      refine q _ _ (some (kd, 1 + r3)) ((bA.trans (b2.trans b3)).trans (sb (same_upd nt))) (z3.same (same_upd nt)) ⟨t, rfl, upd_same⟩ (fun r h => ?_) (fun r h => ?_)
      · cases h
        exact ⟨kk, by show 1 ≤ 1 + r3; omega⟩
      · cases h
        show 1 + r3 ≤ m
        omega
end
end UP

set_option Elab.async false
set_option linter.all false
set_option maxRecDepth 100000
set_option maxHeartbeats 4000000
namespace UP
open PySem PySem.Spec PyProof.Rows L2
theorem pe_bmK {X : Cx} {K : PySem.W.Frag} {e : Expr} {c : String} {r : V → List V → Hp → VK → Prop} {to : TE} {t : TA} (h : X.K = K) (p : PE X e (tBM X.K c r to t)) : PE X e (tBM K c r to t) := h ▸ p
theorem if_by {c : TT} {t u : TS} {D : Ends} {σ : L2.St} {H : Hp} (R : Bool → Hp → Prop) (h : ∀ Q' : Bool → Hp → Prop, (∀ b H', R b H' → Q' b H') → c σ H Q') (ht : ∀ H', R true H' → t D σ H') (hu : ∀ H', R false H' → u D σ H') : tIfS c t u D σ H := by
  refine h _ fun b H' r => ?_
  cases b with
  | true => exact iteT (ht H' r)
  | false => exact iteF (hu H' r)
theorem erase_map {α β : Type} (f : α → β) : ∀ (l : List α) (i : Nat), (l.map f).eraseIdx i = (l.eraseIdx i).map f
  | [], _ => rfl
  | x :: t, 0 => rfl
  | x :: t, i + 1 => by
    simp only [List.map_cons, List.eraseIdx_cons_succ]
    rw [erase_map f t i]
def eight : List Str := ["a", "b", "c", "ab", "zz", "abcdefgh", "aa", "z"]
theorem eight_ok : ∀ s ∈ eight, KindOk s := by decide +kernel
theorem alt_snoc {l : List Run} {x : Run} (h : Alt l) (k : ∀ y, l[l.length - 1]? = some y → y.1 ≠ x.1) : Alt (l ++ [x]) := by
  intro i a b ha hb
  by_cases h1 : i + 1 < l.length
  · rw [List.getElem?_append_left (by omega)] at ha
    rw [List.getElem?_append_left h1] at hb
    exact h i a b ha hb
  · by_cases h2 : i + 1 = l.length
    · rw [List.getElem?_append_left (by omega)] at ha
      rw [List.getElem?_append_right (by omega), h2, Nat.sub_self] at hb
      cases hb
      rw [show i = l.length - 1 by omega] at ha
      exact k a ha
    · rw [List.getElem?_append_right (by omega)] at hb
      rw [List.getElem?_eq_none (by simp; omega)] at hb
      cases hb
theorem pow62 {x : Int} (h0 : 0 ≤ x) (h1 : x ≤ 1000000) : -(2 ^ 62) ≤ x ∧ x < 2 ^ 62 := by omega
theorem wide8 {m : Int} (h0 : 0 ≤ m) (h1 : m ≤ 1000000000000000000000000000000000000000000000000000000000000) : m.natAbs < 2 ^ 8000 :=
  Nat.lt_of_lt_of_le (show m.natAbs < 2 ^ 256 by omega) (Nat.pow_le_pow_right (by decide) (by decide))
section
variable {P : Program} {w : World} {K : PySem.W.Frag} {mg : Str → Option Value} {base : Heap}
/-! _law_sequence: slots 0:spring 1:most 2:longest 3:pool 4:kinds 5:found 6:k 7:kind 8:count -/
abbrev s_law_sequence : Stmt := topS 16
theorem sc_law_sequence : FnScope ["spring", "most", "longest", "pool", "kinds", "found", "k", "kind", "count"] ["spring", "most", "longest"] (defScope s_law_sequence) := ⟨rfl, rfl, rfl, by decide +kernel, rfl, by decide +kernel, by decide +kernel⟩
def sp_law_sequence : Sp := fun vs H Q _ => ∃ (sp : Addr) (m g : Int), vs = [.ref sp, .int m, .int g] ∧ Spr H sp ∧ 0 ≤ m ∧ m ≤ 400 ∧ 1 ≤ g ∧ g ≤ 1000000000000000000000000000000 ∧ ∀ H' p rs, But sp H H' → Spr H' sp → H p = none → Runs H' p rs → SeqOk rs → (rs.length : Int) ≤ m → (∀ r ∈ rs, r.2 ≤ g) → Q (.ref p) H'
theorem ok_law_sequence (D : Df K mg "_law_sequence" s_law_sequence) (T : Tx mg) (G_law_draw : Has P w K mg base 1 "_law_draw" ["spring", "many"] sp_law_draw) : Has P w K mg base 2 "_law_sequence" ["spring", "most", "longest"] sp_law_sequence := by
  refine has_of D sc_law_sequence (fun _ _ _ _ _ _ us hl => match us, hl with | [_, _, _], _ => rfl) (fun vs H Q E h => ?_) (fun f cdv A outer s₀ H vs Q E hr h => ?_)
  · obtain ⟨_, _, _, rfl, _⟩ := h
    rfl
  · obtain ⟨sp, m, g, rfl, hz, m0, m4, g1, g2, q⟩ := h
    refine ⟨_, (pss_cons (ps_set (i := 3) sc_law_sequence.nd rfl (by first | exact Or.inl rfl | exact Or.inr rfl) (pe_lst (pa_cons pe_str (pa_cons pe_str (pa_cons pe_str (pa_cons pe_str (pa_cons pe_str (pa_cons pe_str (pa_cons pe_str (pa_cons pe_str pa_nil))))))))))
    (pss_cons (ps_setLc (i := 4) (own := [("k", 6)]) rfl sc_law_sequence.nd rfl rfl (sw_true rfl rfl rfl (by decide +kernel)) (pi_range1 (by rfl) T.n_range (pa_cons (pe_op op_add pe_int (pe_callH G_law_draw (hr.mono (by omega)) (by rfl) (pa_cons (pv 0) (pa_cons pe_int pa_nil)))) pa_nil)) (blkOk_by (N := ["spring", "most", "longest", "pool", "kinds", "found", "k", "kind", "count"]) (sc := defScope s_law_sequence) (by decide +kernel)) (fun _ _ _ _ _ => (pg_name (i := 6) sc_law_sequence.nd rfl (by first | exact Or.inl rfl | exact Or.inr rfl))) (fun _ _ _ _ _ => pts_nil) (fun _ _ _ _ _ => (pe_bmK (K := K) rfl (pe_bm PySem.F.plainAttrs_list PySem.F.slot_list_pop PySem.F.type_list_pop mt_popAt (pv 3) (pa_cons (pe_callH G_law_draw (hr.mono (by omega)) (by rfl) (pa_cons (pv 0) (pa_cons (pe_callB (call_len_seqK (K := K) rfl) (by rfl) T.n_len (by decide +kernel) (pa_cons (pv 3) pa_nil)) pa_nil))) pa_nil)))))
    (pss_cons (ps_set (i := 5) sc_law_sequence.nd rfl (by first | exact Or.inl rfl | exact Or.inr rfl) (pe_lst pa_nil))
    (pss_cons (ps_for PassesOwn.never rfl (pi_range1 (by rfl) T.n_range (pa_cons (pe_callH G_law_draw (hr.mono (by omega)) (by rfl) (pa_cons (pv 0) (pa_cons (pe_op op_add (pv 1) pe_int) pa_nil))) pa_nil)) (pg_name (i := 6) sc_law_sequence.nd rfl (by first | exact Or.inl rfl | exact Or.inr rfl))
      (pss_cons (ps_par (i := 7) (j := 8) (by rfl) sc_law_sequence.nd rfl rfl (by decide) rfl rfl (pa_cons (pe_ix ix_list (pv 4) (pe_callH G_law_draw (hr.mono (by omega)) (by rfl) (pa_cons (pv 0) (pa_cons (pe_callB call_len_seq (by rfl) T.n_len (by decide +kernel) (pa_cons (pv 4) pa_nil)) pa_nil))) (fun _ _ => rfl)) (pa_cons (pe_op op_add pe_int (pe_callH G_law_draw (hr.mono (by omega)) (by rfl) (pa_cons (pv 0) (pa_cons (pv 2) pa_nil)))) pa_nil)) (by rfl))
    (pss_one (ps_if (PW.pt (pw_or (pt_cmpR (op_eqD hr.units) (pv 5) (pe_lst pa_nil) (nomark _)) (pw_or1 (pt_cmpR op_ne (pe_ix ix_tup (pe_ix ix_list (pv 5) (pe_un un_neg pe_int) (fun _ _ => rfl)) pe_int (fun _ _ => rfl)) (pv 7) (nomark _))))) (pss_one (ps_expr (pe_bm PySem.F.plainAttrs_list PySem.F.slot_list_append PySem.F.type_list_append mt_append (pv 5) (pa_cons (pe_tup (pa_cons (pv 7) (pa_cons (pv 8) pa_nil))) pa_nil)))) pss_nil))))
    (pss_one (ps_ret (pv 5))))))), ?_⟩
    refine ⟨(by show 8 ≤ sizeLine; decide), fun pl npl => ?_⟩
    have z1 : Spr (upd H pl (.lst (eight.map V.str))) sp := hz.same (same_upd npl)
    have n1 : pl ≠ sp := Spr.ne hz npl
    refine ⟨_, rfl, sp, 5, rfl, z1, by decide, by decide, fun H2 r2 b2 z2 r20 r21 => ?_⟩
    have hp2 : H2 pl = some (.lst (eight.map V.str)) := b2 _ _ n1 upd_same
    have B2 : But sp H H2 := (sb (same_upd npl)).trans b2
    refine ⟨_, _, rfl, rfl, 1 + r2, rfl, by omega, by omega, fun L nL => ?_⟩
    have nLs : L ≠ sp := Spr.ne z2 nL
    have nLp : L ≠ pl := fun e => by rw [e, hp2] at nL; cases nL
    have nLH : H L = none := B2.free z2 nL
    refine lc_range (lo := 0) (n := (1 + r2).toNat) (fun i H' => ∃ ps ks : List Str, But sp H H' ∧ Spr H' sp ∧ H' pl = some (.lst (ps.map V.str)) ∧ ps.length + i = 8 ∧ (∀ s ∈ ps, KindOk s) ∧ H' L = some (.lst (ks.map V.str)) ∧ ks.length = i ∧ (∀ s ∈ ks, KindOk s))
      ⟨eight, [], B2.trans (sb (same_upd nL)), z2.same (same_upd nL), by rw [upd_ne nLp.symm]; exact hp2, rfl, eight_ok, upd_same, rfl, fun s h => by cases h⟩ (fun i H3 hi hP => ?_) (fun H3 hP => ?_)
    · obtain ⟨ps, ks, b3, z3, hpl, lp, okp, hL, lk, okk⟩ := hP
      refine ⟨rfl, yesT ⟨_, rfl, .inl ⟨rfl, _, SqL.of hpl⟩, _, rfl, _, rfl, pl, _, rfl, .inl (.of hpl), sp, _, rfl, z3, ?_, ?_, fun H4 r4 b4 z4 r40 r41 => ?_⟩⟩
      · rw [List.length_map]
        omega
      · rw [List.length_map]
        exact wide8 (by omega) (by omega)
      · rw [List.length_map] at r41
        have lt : r4.toNat < ps.length := by omega
        have h4 : H4 pl = some (.lst (ps.map V.str)) := b4 _ _ n1 hpl
        have hL4 : H4 L = some (.lst (ks.map V.str)) := b4 _ _ nLs hL
        have ek : (ps.map V.str)[r4.toNat]? = some (.str ps[r4.toNat]) := by
          rw [List.getElem?_map, List.getElem?_eq_getElem lt]
          rfl
        have ix : seqIndex? r4 (ps.map V.str).length = some r4.toNat := by
          unfold seqIndex?
          rw [List.length_map]
          have e1 : ¬ r4 < 0 := by omega
          simp only [e1, if_false]
          rw [if_pos]
          simp
          omega
        refine ⟨pl, _, r4, r4.toNat, _, rfl, rfl, h4, by omega, by omega, ix, ek, ks.map V.str, ?_, ?_, ps.eraseIdx r4.toNat, ks ++ [ps[r4.toNat]], ?_, ?_, ?_, ?_, ?_, ?_, ?_, ?_⟩
        · rw [upd_ne nLp]
          exact hL4
        · rw [List.length_map]
          exact small (by omega)
        · intro b o nb eb
          have e1 : b ≠ L := ne_of_none eb nLH
          have e2 : b ≠ pl := ne_of_none eb npl
          rw [upd_ne e1, upd_ne e2]
          exact b4 b o nb (b3 b o nb eb)
        · obtain ⟨d, s, c, hs, rest⟩ := z4
          refine ⟨d, s, c, ?_, rest⟩
          rw [upd_ne nLs.symm, upd_ne n1.symm]
          exact hs
        · rw [upd_ne nLp.symm, upd_same, erase_map]
        · rw [List.length_eraseIdx_of_lt lt]
          omega
        · intro s hs
          exact okp s (List.mem_of_mem_eraseIdx hs)
        · rw [upd_same, List.map_append]
          rfl
        · rw [List.length_append, lk]
          rfl
        · intro s hs
          rcases List.mem_append.mp hs with h | h
          · exact okk s h
          · rw [List.mem_singleton.mp h]
            exact okp _ (List.getElem_mem lt)
    · obtain ⟨ps, ks, b3, z3, hpl, lp, okp, hL, lk, okk⟩ := hP
      refine ⟨Nat.zero_le _, fun p np => ?_⟩
      have npH : H p = none := b3.free z3 np
      have nps : p ≠ sp := Spr.ne z3 np
      have npL : p ≠ L := fun e => by rw [e, hL] at np; cases np
      refine ⟨_, rfl, _, rfl, _, _, rfl, rfl, sp, _, rfl, z3.same (same_upd np), (by show 1 ≤ m + 1; omega), (wide8 (by show 0 ≤ m + 1; omega) (by show m + 1 ≤ _; omega)), fun H5 r5 b5 z5 r50 r51 => ?_⟩
      have r51 : r5 < m + 1 := r51
      refine ⟨r5, rfl, by omega, by omega, for_range (lo := 0) (n := r5.toNat) (fun i σ H' => ∃ y6 y7 y8 rs, σ = [some (.ref sp), some (.int m), some (.int g), some (.ref pl), some (.ref L), some (.ref p), y6, y7, y8] ∧ But sp H H' ∧ Spr H' sp ∧ H' L = some (.lst (ks.map V.str)) ∧ Runs H' p rs ∧ rs.length ≤ i ∧ (∀ r ∈ rs, RunOk r ∧ r.2 ≤ g) ∧ Alt rs)
        ⟨none, none, none, [], rfl, (b3.trans (sb (same_upd np))).trans b5, z5, b5 _ _ nLs (same_upd np _ _ hL), ⟨[], b5 _ _ nps upd_same, .nil⟩, Nat.zero_le _, (fun r h => by cases h), (fun i x y h => by simp at h)⟩ (fun i σ H6 hi hP => ?_) (fun σ H6 hP => ?_)⟩
      · obtain ⟨y6, y7, y8, rs, rfl, b6, z6, hL6, hR, lr, okr, alt⟩ := hP
        refine ⟨_, rfl, _, rfl, _, rfl, L, _, rfl, .inl (.of hL6), sp, _, rfl, z6, ?_, ?_, fun H7 r7 b7 z7 r70 r71 => ?_⟩
        · rw [List.length_map]
          omega
        · rw [List.length_map]
          exact wide8 (by omega) (by omega)
        rw [List.length_map] at r71
        have lt : r7.toNat < ks.length := by omega
        have hL7 : H7 L = some (.lst (ks.map V.str)) := b7 _ _ nLs hL6
        have ek : (ks.map V.str)[r7.toNat]? = some (.str ks[r7.toNat]) := by
          rw [List.getElem?_map, List.getElem?_eq_getElem lt]
          rfl
        have kk : KindOk ks[r7.toNat] := okk _ (List.getElem_mem lt)
        generalize ks[r7.toNat] = kd at ek kk
        refine ⟨L, _, r7, _, rfl, rfl, .of hL7, atI_of r70 ek, ?_⟩
        refine ⟨_, rfl, _, rfl, sp, g, rfl, z7, g1, wide8 (by omega) (by omega), fun H8 r8 b8 z8 r80 r81 => ⟨_, _, rfl, rfl, _, _, rfl, ?_⟩⟩
        have B8 := b6.trans (b7.trans b8)
        have hL8 : H8 L = some (.lst (ks.map V.str)) := b8 _ _ nLs hL7
        have hR8 : Runs H8 p rs := (hR.but z6 b7).but z7 b8
        have okR : ∀ r ∈ rs, KindOk r.1 := fun r h => (okr r h).1.1
        clear b7 b8 hL7 hR hL6 b6 z6 z7
        obtain ⟨xs, hx, hpr⟩ := hR8
        have lx : xs.length = rs.length := Paired.len hpr
        dsimp only
        refine if_by (fun b H9 => Same H8 H9 ∧ (b = true → ∀ y, rs[rs.length - 1]? = some y → y.1 ≠ kd)) (fun Q' k => ?_) (fun H9 hq => ?_) (fun H9 hq => ?_)
        · refine ⟨_, rfl, Nat.zero_le _, fun e ne => ?_⟩
          have se : Same H8 (upd H8 e (.lst [])) := same_upd ne
          refine ⟨.list (rs.map dRun), .list [], .lst (.of (se _ _ hx)) (dp_all (prs_same se hpr)), .lst (.of upd_same) .nil, shaped_runs okR, shaped_nil, _, rfl, ?_⟩
          rw [eqv_nil]
          cases hrs : rs with
          | nil => exact iteP rfl (k _ _ ⟨se, fun _ y hy => by rw [hrs] at hy; cases hy⟩)
          | cons r0 t0 =>
            refine iteN rfl ?_
            have hne : rs ≠ [] := by rw [hrs]; intro z; cases z
            have hlt : rs.length - 1 < rs.length := by
              have : 0 < rs.length := by rw [hrs]; exact Nat.succ_pos _
              omega
            obtain ⟨x, ex, hxv⟩ := Paired.at' hpr (List.getElem?_eq_getElem hlt)
            obtain ⟨tt, rfl, htt⟩ := RunV.same se hxv
            have exl : atI xs (-1) = some (.ref tt) := by
              have h1 : xs ≠ [] := fun z => by rw [z] at lx; rw [hrs] at lx; cases lx
              have h2 : xs = xs.dropLast ++ [xs.getLast h1] := (List.dropLast_concat_getLast h1).symm
              have h3 : xs.getLast h1 = .ref tt := by
                have := List.getLast?_eq_getElem? (l := xs)
                rw [lx, ex, List.getLast?_eq_some_getLast h1] at this
                exact Option.some.inj this
              rw [h2, h3]
              exact atI_last _ _
            refine ⟨_, rfl, 1, rfl, p, xs, -1, _, rfl, rfl, .of (se _ _ hx), exl, tt, _, 0, _, rfl, rfl, .of htt, at0, _, rfl, rfl, _, rfl, ?_⟩
            refine k _ _ ⟨se, fun hb y hy => ?_⟩
            rw [List.getElem?_eq_getElem hlt] at hy
            cases hy
            intro z
            rw [z] at hb
            simp at hb
        · obtain ⟨s9, ha⟩ := hq
          refine ⟨_, rfl, .inl ⟨rfl, _, SqL.of (s9 _ _ hx)⟩, _, rfl, _, rfl, (by show 2 ≤ sizeLine; decide), fun n nn => ⟨p, _, _, rfl, rfl, same_upd nn _ _ (s9 _ _ hx), small (by omega), ?_⟩⟩
          have sn := s9.trans (same_upd (o := .tup [.str kd, .int (1 + r8)]) nn)
          refine ⟨_, _, _, rs ++ [(kd, 1 + r8)], rfl, ?_, ?_, ?_, ⟨_, upd_same, Paired.app (prs_grow (sn _ _ hx) (prs_same sn hpr)) (.cons (RunV.grow (sn _ _ hx) ⟨n, rfl, upd_same⟩) .nil)⟩, ?_, ?_, alt_snoc alt (ha rfl)⟩
          · intro b o nb eb
            rw [upd_ne (ne_of_none eb npH)]
            exact sn b o (B8 b o nb eb)
          · obtain ⟨d, s, c, hs, rest⟩ := z8.same sn
            refine ⟨d, s, c, ?_, rest⟩
            rw [upd_ne nps.symm]
            exact hs
          · rw [upd_ne npL.symm]
            exact sn _ _ hL8
          · rw [List.length_append]
            show rs.length + 1 ≤ i + 1
            omega
          · intro r hr
            rcases List.mem_append.mp hr with h | h
            · exact okr r h
            · rw [List.mem_singleton.mp h]
              exact ⟨⟨kk, by show 1 ≤ 1 + r8; omega, by show 1 + r8 ≤ _; omega⟩, by show 1 + r8 ≤ g; omega⟩
        · obtain ⟨s9, ha⟩ := hq
          exact ⟨_, _, _, rs, rfl, fun b o nb eb => s9 b o (B8 b o nb eb), z8.same s9, s9 _ _ hL8, ⟨xs, s9 _ _ hx, prs_same s9 hpr⟩, by omega, okr, alt⟩
      · obtain ⟨y6, y7, y8, rs, rfl, b6, z6, hL6, hR, lr, okr, alt⟩ := hP
        exact ⟨_, rfl, q H6 p rs b6 z6 npH hR ⟨by omega, fun r h => (okr r h).1, alt⟩ (by omega) (fun r h => (okr r h).2)⟩
end
end UP

set_option Elab.async false
set_option linter.all false
set_option maxRecDepth 100000
set_option maxHeartbeats 4000000
namespace UP
open PySem PySem.Spec PyProof.Rows L2
def scR (t : Int) (rs : List Run) : List Run := rs.map fun r => (r.1, r.2 * t)
def toldR (ws : List Run) : Option Run := match ws with
  | [] => none
  | r :: _ => some (r.1, (ws.length : Int))
def repR (k : Str) (n : Int) : Option Run := if n = 0 then none else some (k, n)
theorem repR_zero (k : Str) : repR k 0 = none := if_pos rfl
theorem repR_pos {k : Str} {n : Int} (h : 0 < n) : repR k n = some (k, n) := if_neg (by omega)
def PosO (st : Option Run) : Prop := ∀ r, st = some r → 1 ≤ r.2
theorem stepR_pos {st : Option Run} {k : Str} {c : Int} (h : PosO st) (hc : 1 ≤ c) : PosO (stepR st k c) := by
  intro r e
  cases st with
  | none =>
    cases e
    exact hc
  | some x =>
    have hx := h x rfl
    have e : (if x.1 = k then some (k, x.2 + c) else if 0 < x.2 - c then some (x.1, x.2 - c) else if x.2 - c = 0 then none else some (k, -(x.2 - c))) = some r := e
    by_cases h1 : x.1 = k
    · rw [if_pos h1] at e
      cases e
      show 1 ≤ x.2 + c
      omega
    · rw [if_neg h1] at e
      by_cases h2 : 0 < x.2 - c
      · rw [if_pos h2] at e
        cases e
        show 1 ≤ x.2 - c
        omega
      · rw [if_neg h2] at e
        by_cases h3 : x.2 - c = 0
        · rw [if_pos h3] at e
          cases e
        · rw [if_neg h3] at e
          cases e
          show 1 ≤ -(x.2 - c)
          omega
theorem stR_cons (r : Run) (l : List Run) (st : Option Run) : stR (r :: l) st = stR l (stepR st r.1 r.2) := rfl
theorem stR_pos : ∀ {rs : List Run} {st : Option Run}, PosO st → (∀ r ∈ rs, 1 ≤ r.2) → PosO (stR rs st)
  | [], _, h, _ => h
  | r :: t, st, h, k => by
    rw [stR_cons]
    exact stR_pos (stepR_pos h (k r (List.mem_cons_self ..))) fun x hx => k x (List.mem_cons_of_mem _ hx)
theorem StOk.pos {st : Option Run} (h : StOk st) : PosO st := fun r e => (h r e).2
section
variable {P : Program} {w : World} {K : PySem.W.Frag} {mg : Str → Option Value} {base : Heap}
end
end UP

set_option Elab.async false
set_option linter.all false
set_option maxRecDepth 100000
set_option maxHeartbeats 4000000
namespace UP
open PySem PySem.Spec PyProof.Rows L2
/-! ### plain data, by depth -/
def Dsc (v : V) (d : PyData) : Prop := (v = .non ∧ d = .none) ∨ (∃ b, v = .bl b ∧ d = .bool b) ∨ (∃ i, v = .int i ∧ d = .int i) ∨ ∃ s, v = .str s ∧ d = .str s
def Dt (H : Hp) : Nat → V → PyData → Prop
  | 0, v, d => Dsc v d
  | n + 1, v, d => Dsc v d ∨ (∃ a xs ds, v = .ref a ∧ H a = some (.lst xs) ∧ d = .list ds ∧ Paired (Dt H n) xs ds ∧ ds.length ≤ 100000) ∨ ∃ a xs ds, v = .ref a ∧ H a = some (.tup xs) ∧ d = .tuple ds ∧ Paired (Dt H n) xs ds ∧ ds.length ≤ 100000
theorem Dt.same {H H' : Hp} (s : Same H H') : ∀ {n : Nat} {v : V} {d : PyData}, Dt H n v d → Dt H' n v d
  | 0, _, _, h => h
  | n + 1, v, d, h => by
    rcases h with h | ⟨a, xs, ds, e, h, e2, p, l⟩ | ⟨a, xs, ds, e, h, e2, p, l⟩
    · exact .inl h
    · exact .inr (.inl ⟨a, xs, ds, e, s _ _ h, e2, Paired.imp (fun _ _ z => Dt.same s z) p, l⟩)
    · exact .inr (.inr ⟨a, xs, ds, e, s _ _ h, e2, Paired.imp (fun _ _ z => Dt.same s z) p, l⟩)
theorem dsc_ref {a : Addr} {d : PyData} (h : Dsc (.ref a) d) : False := by
  rcases h with ⟨h, _⟩ | ⟨_, h, _⟩ | ⟨_, h, _⟩ | ⟨_, h, _⟩ <;> cases h
theorem dsc_lst {v : V} {ds : List PyData} (h : Dsc v (.list ds)) : False := by
  rcases h with ⟨_, h⟩ | ⟨_, _, h⟩ | ⟨_, _, h⟩ | ⟨_, _, h⟩ <;> cases h
theorem dsc_tup {v : V} {ds : List PyData} (h : Dsc v (.tuple ds)) : False := by
  rcases h with ⟨_, h⟩ | ⟨_, _, h⟩ | ⟨_, _, h⟩ | ⟨_, _, h⟩ <;> cases h
theorem dsc_one {v v' : V} {d : PyData} (h : Dsc v d) (h' : Dsc v' d) : v = v' := by
  rcases h with ⟨e, z⟩ | ⟨x, e, z⟩ | ⟨x, e, z⟩ | ⟨x, e, z⟩ <;> subst z <;> rcases h' with ⟨e', z⟩ | ⟨y, e', z⟩ | ⟨y, e', z⟩ | ⟨y, e', z⟩ <;> cases z <;> rw [e, e']
theorem kit_no {K : PySem.W.Frag} {c : String} (h1 : kitB c "list" = some false) (h2 : kitB c "tuple" = some false) : PySem.W.kitAny K (.type c) [.type "list", .type "tuple"] = some false :=
  kitAny_cons (b := false) (kit_ty h1) (fun _ => kitAny_cons (b := false) (kit_ty h2) (fun _ => rfl) (fun z => nomatch z)) (fun z => nomatch z)
theorem ixL {K : PySem.W.Frag} {x y : V} {H : Hp} {Q : VK} (h : rIxL K x y H Q) : rIx K x y H Q := .inl h
theorem ixT {K : PySem.W.Frag} {x y : V} {H : Hp} {Q : VK} (h : rIxT K x y H Q) : rIx K x y H Q := .inr (.inl h)
section
variable {P : Program} {w : World} {K : PySem.W.Frag} {mg : Str → Option Value} {base : Heap}
/-! _law_same: slots 0:found 1:due 2:k -/
abbrev s_law_same : Stmt := topS 15
theorem sc_law_same : FnScope ["found", "due", "k"] ["found", "due"] (defScope s_law_same) := ⟨rfl, rfl, rfl, by decide +kernel, rfl, by decide +kernel, by decide +kernel⟩
def sp_law_same (n : Nat) : Sp := fun vs H Q _ => ∃ v v' d, vs = [v, v'] ∧ Dt H n v d ∧ Dt H n v' d ∧ ∀ H', Same H H' → Q (.bl true) H'
def sp_none : Sp := fun _ _ _ _ => False
def sp_pre : Nat → Sp
  | 0 => sp_none
  | n + 1 => sp_law_same n
theorem none_law_same (D : Df K mg "_law_same" s_law_same) : Has P w K mg base 1 "_law_same" ["found", "due"] sp_none :=
  has_of D sc_law_same (fun _ _ _ _ _ _ us hl => match us, hl with | [_, _], _ => rfl) (fun _ _ _ _ h => h.elim) (fun _ _ _ _ _ _ _ _ _ _ h => h.elim)
theorem call_of {n : Nat} {vs : List V} {H : Hp} {Q : VK} {E : XK} (h : sp_law_same n vs H Q E) : sp_pre (n + 1) vs H Q E := h
theorem step_law_same (D : Df K mg "_law_same" s_law_same) (T : Tx mg) (m : Nat) (G_law_same : Has P w K mg base (m + 1) "_law_same" ["found", "due"] (sp_pre m)) : Has P w K mg base (m + 2) "_law_same" ["found", "due"] (sp_law_same m) := by
  refine has_of D sc_law_same (fun _ _ _ _ _ _ us hl => match us, hl with | [_, _], _ => rfl) (fun vs H Q E h => ?_) (fun f cdv A outer s H vs Q E hr h => ?_)
  · obtain ⟨_, _, _, rfl, _⟩ := h
    rfl
  · obtain ⟨v, v', d, rfl, h1, h2, q⟩ := h
    refine ⟨_, (pss_cons (ps_if (pt_val (pe_callB call_isiT (by rfl) T.n_isinstance (by decide +kernel) (pa_cons (pv 1) (pa_cons (pe_tup (pa_cons (pe_bltn (v := .ty "list") (by rfl) T.n_list (by decide +kernel) rfl) (pa_cons (pe_bltn (v := .ty "tuple") (by rfl) T.n_tuple (by decide +kernel) rfl) pa_nil))) pa_nil)))) (pss_cons (ps_if (PW.pt (pw_or (pt_cmpR op_ne (pe_callB call_isi (by rfl) T.n_isinstance (by decide +kernel) (pa_cons (pv 0) (pa_cons (pe_bltn (v := .ty "list") (by rfl) T.n_list (by decide +kernel) rfl) pa_nil))) (pe_callB call_isi (by rfl) T.n_isinstance (by decide +kernel) (pa_cons (pv 1) (pa_cons (pe_bltn (v := .ty "list") (by rfl) T.n_list (by decide +kernel) rfl) pa_nil))) (nomark _)) (pw_or1 (pt_cmpR op_ne (pe_callB call_isi (by rfl) T.n_isinstance (by decide +kernel) (pa_cons (pv 0) (pa_cons (pe_bltn (v := .ty "tuple") (by rfl) T.n_tuple (by decide +kernel) rfl) pa_nil))) (pe_callB call_isi (by rfl) T.n_isinstance (by decide +kernel) (pa_cons (pv 1) (pa_cons (pe_bltn (v := .ty "tuple") (by rfl) T.n_tuple (by decide +kernel) rfl) pa_nil))) (nomark _))))) (pss_one (ps_ret pe_bl)) pss_nil)
    (pss_one (ps_ret (pe_and (pe_cmpR op_eq (pe_callB call_len_seq (by rfl) T.n_len (by decide +kernel) (pa_cons (pv 0) pa_nil)) (pe_callB call_len_seq (by rfl) T.n_len (by decide +kernel) (pa_cons (pv 1) pa_nil)) (nomark _)) (pe_one (pe_callB (cr_all rfl) (by rfl) T.n_all (by decide +kernel) (pa_cons (pe_lc (own := [("k", 2)]) rfl sc_law_same.nd (pi_range1 (by rfl) T.n_range (pa_cons (pe_callB call_len_seq (by rfl) T.n_len (by decide +kernel) (pa_cons (pv 1) pa_nil)) pa_nil)) (blkOk_by (N := ["found", "due", "k"]) (sc := defScope s_law_same) (by decide +kernel)) (fun _ _ _ _ _ => (pg_name (i := 2) sc_law_same.nd rfl (by first | exact Or.inl rfl | exact Or.inr rfl))) (fun _ _ _ _ _ => pts_nil) (fun _ _ _ _ _ => (pe_callH G_law_same (hr.mono (by omega)) (by rfl) (pa_cons (pe_ix (ix_seqK (K := K) rfl) (pv 0) (pv 2) (fun _ _ => rfl)) (pa_cons (pe_ix (ix_seqK (K := K) rfl) (pv 1) (pv 2) (fun _ _ => rfl)) pa_nil))))) pa_nil))))))) pss_nil)
    (pss_cons (ps_if (PW.pt (pw_or (pt_cmpR op_isN (pv 1) pe_non (nomark _)) (pw_or1 (pt_cmpR op_isN (pv 0) pe_non (nomark _))))) (pss_one (ps_ret (pe_and (pe_cmpR op_isN (pv 1) pe_non (nomark _)) (pe_one (pe_cmpR op_isN (pv 0) pe_non (nomark _)))))) pss_nil)
    (pss_cons (ps_if (PW.pt (pw_or (pt_cmpR op_ne (pe_callB call_isi (by rfl) T.n_isinstance (by decide +kernel) (pa_cons (pv 1) (pa_cons (pe_bltn (v := .ty "bool") (by rfl) T.n_bool (by decide +kernel) rfl) pa_nil))) (pe_callB call_isi (by rfl) T.n_isinstance (by decide +kernel) (pa_cons (pv 0) (pa_cons (pe_bltn (v := .ty "bool") (by rfl) T.n_bool (by decide +kernel) rfl) pa_nil))) (nomark _)) (pw_or1 (pt_cmpR op_ne (pe_callB call_isi (by rfl) T.n_isinstance (by decide +kernel) (pa_cons (pv 1) (pa_cons (pe_bltn (v := .ty "str") (by rfl) T.n_str (by decide +kernel) rfl) pa_nil))) (pe_callB call_isi (by rfl) T.n_isinstance (by decide +kernel) (pa_cons (pv 0) (pa_cons (pe_bltn (v := .ty "str") (by rfl) T.n_str (by decide +kernel) rfl) pa_nil))) (nomark _))))) (pss_one (ps_ret pe_bl)) pss_nil)
    (pss_one (ps_ret (pe_cmpR op_eq (pv 0) (pv 1) (nomark _))))))), ?_⟩
    have scalar : ∀ (ty : String), Dsc v d → Dsc v' d → True := fun _ _ _ => trivial
    clear scalar
    have hs : (Dsc v d ∧ Dsc v' d) ∨ ∃ n, m = n + 1 ∧ ((∃ a xs ds, v = .ref a ∧ H a = some (.lst xs) ∧ d = .list ds ∧ Paired (Dt H n) xs ds ∧ ds.length ≤ 100000) ∨ ∃ a xs ds, v = .ref a ∧ H a = some (.tup xs) ∧ d = .tuple ds ∧ Paired (Dt H n) xs ds ∧ ds.length ≤ 100000) := by
      cases m with
      | zero => exact .inl ⟨h1, h2⟩
      | succ n =>
        rcases h1 with h1 | h1 | h1
        · rcases h2 with h2 | ⟨a, xs, ds, _, _, e, _⟩ | ⟨a, xs, ds, _, _, e, _⟩
          · exact .inl ⟨h1, h2⟩
          · rw [e] at h1
            exact (dsc_lst h1).elim
          · rw [e] at h1
            exact (dsc_tup h1).elim
        · exact .inr ⟨n, rfl, .inl h1⟩
        · exact .inr ⟨n, rfl, .inr h1⟩
    rcases hs with ⟨s1, s2⟩ | ⟨n, rfl, h1 | h1⟩
    · have ev := dsc_one s1 s2
      subst ev
      rcases s1 with ⟨rfl, _⟩ | ⟨b, rfl, _⟩ | ⟨i, rfl, _⟩ | ⟨z, rfl, _⟩
      · refine ⟨_, rfl, (by show 2 ≤ sizeLine; decide), fun tp nt => ⟨_, tp, _, _, _, false, rfl, upd_same, .cons (.ty "list") (.cons (.ty "tuple") .nil), .base .non, kit_no (by decide +kernel) (by decide +kernel), false, rfl, iteF ?_⟩⟩
        exact ⟨_, rfl, rfl, _, rfl, iteP rfl (iteT ⟨_, rfl, rfl, true, rfl, iteT ⟨_, rfl, rfl, q _ (same_upd nt)⟩⟩)⟩
      · refine ⟨_, rfl, (by show 2 ≤ sizeLine; decide), fun tp nt => ⟨_, tp, _, _, _, false, rfl, upd_same, .cons (.ty "list") (.cons (.ty "tuple") .nil), .base (.bl b), kit_no (by decide +kernel) (by decide +kernel), false, rfl, iteF ?_⟩⟩
        refine ⟨_, rfl, rfl, _, rfl, iteN rfl ⟨_, rfl, rfl, _, rfl, iteN rfl ?_⟩⟩
        refine ⟨_, rfl, _, _, _, _, true, rfl, .ty "bool", .base (.bl b), kit_ty (by decide +kernel), _, rfl, _, _, _, _, true, rfl, .ty "bool", .base (.bl b), kit_ty (by decide +kernel), rfl, _, rfl, iteN (by decide) ?_⟩
        refine ⟨_, rfl, _, _, _, _, false, rfl, .ty "str", .base (.bl b), kit_ty (by decide +kernel), _, rfl, _, _, _, _, false, rfl, .ty "str", .base (.bl b), kit_ty (by decide +kernel), rfl, _, rfl, iteN (by decide) ?_⟩
        refine ⟨_, rfl, _, rfl, rfl, ?_⟩
        rw [decide_eq_true rfl]
        exact q _ (same_upd nt)
      · refine ⟨_, rfl, (by show 2 ≤ sizeLine; decide), fun tp nt => ⟨_, tp, _, _, _, false, rfl, upd_same, .cons (.ty "list") (.cons (.ty "tuple") .nil), .base (.int i), kit_no (by decide +kernel) (by decide +kernel), false, rfl, iteF ?_⟩⟩
        refine ⟨_, rfl, rfl, _, rfl, iteN rfl ⟨_, rfl, rfl, _, rfl, iteN rfl ?_⟩⟩
        refine ⟨_, rfl, _, _, _, _, false, rfl, .ty "bool", .base (.int i), kit_ty (by decide +kernel), _, rfl, _, _, _, _, false, rfl, .ty "bool", .base (.int i), kit_ty (by decide +kernel), rfl, _, rfl, iteN (by decide) ?_⟩
        refine ⟨_, rfl, _, _, _, _, false, rfl, .ty "str", .base (.int i), kit_ty (by decide +kernel), _, rfl, _, _, _, _, false, rfl, .ty "str", .base (.int i), kit_ty (by decide +kernel), rfl, _, rfl, iteN (by decide) ?_⟩
        refine ⟨_, rfl, _, rfl, rfl, ?_⟩
        rw [decide_eq_true rfl]
        exact q _ (same_upd nt)
      · refine ⟨_, rfl, (by show 2 ≤ sizeLine; decide), fun tp nt => ⟨_, tp, _, _, _, false, rfl, upd_same, .cons (.ty "list") (.cons (.ty "tuple") .nil), .base (.str z), kit_no (by decide +kernel) (by decide +kernel), false, rfl, iteF ?_⟩⟩
        refine ⟨_, rfl, rfl, _, rfl, iteN rfl ⟨_, rfl, rfl, _, rfl, iteN rfl ?_⟩⟩
        refine ⟨_, rfl, _, _, _, _, false, rfl, .ty "bool", .base (.str z), kit_ty (by decide +kernel), _, rfl, _, _, _, _, false, rfl, .ty "bool", .base (.str z), kit_ty (by decide +kernel), rfl, _, rfl, iteN (by decide) ?_⟩
        refine ⟨_, rfl, _, _, _, _, true, rfl, .ty "str", .base (.str z), kit_ty (by decide +kernel), _, rfl, _, _, _, _, true, rfl, .ty "str", .base (.str z), kit_ty (by decide +kernel), rfl, _, rfl, iteN (by decide) ?_⟩
        refine ⟨_, rfl, _, rfl, rfl, ?_⟩
        rw [decide_eq_true rfl]
        exact q _ (same_upd nt)
    · obtain ⟨a1, xs, ds, rfl, hx, rfl, px, ld⟩ := h1
      rcases h2 with h2 | h2 | h2
      · exact (dsc_lst h2).elim
      · obtain ⟨a2, ys, ds2, rfl, hy, e2, py, _⟩ := h2
        cases e2
        have l1 : xs.length = ds.length := Paired.len px
        have l2 : ys.length = ds.length := Paired.len py
        refine ⟨_, rfl, (by show 2 ≤ sizeLine; decide), fun tp nt => ⟨_, tp, _, _, _, true, rfl, upd_same, .cons (.ty "list") (.cons (.ty "tuple") .nil), .base (.lst (same_upd nt _ _ hy)), kit_lst, true, rfl, iteT ?_⟩⟩
        have st : Same H (upd H tp (.tup [.ty "list", .ty "tuple"])) := same_upd nt
        refine ⟨_, rfl, _, _, _, _, true, rfl, .ty "list", .base (.lst (st _ _ hx)), kit_ty (by decide +kernel), _, rfl, _, _, _, _, true, rfl, .ty "list", .base (.lst (st _ _ hy)), kit_ty (by decide +kernel), rfl, _, rfl, iteN (by decide) ?_⟩
        refine ⟨_, rfl, _, _, _, _, false, rfl, .ty "tuple", .base (.lst (st _ _ hx)), kit_ty (by decide +kernel), _, rfl, _, _, _, _, false, rfl, .ty "tuple", .base (.lst (st _ _ hy)), kit_ty (by decide +kernel), rfl, _, rfl, iteN (by decide) ?_⟩
        refine ⟨_, rfl, a1, xs, rfl, .inl (.of (st _ _ hx)), _, rfl, a2, ys, rfl, .inl (.of (st _ _ hy)), rfl, true, ?_, iteT ?_⟩
        · rw [l1, l2]
          exact congrArg V.bl (decide_eq_true rfl)
        refine ⟨_, rfl, a2, ys, rfl, .inl (.of (st _ _ hy)), _, rfl, by omega, by omega, fun L nL => ?_⟩
        refine lc_range (lo := 0) (n := ((ys.length : Int)).toNat) (fun i H' => Same (upd H tp (.tup [.ty "list", .ty "tuple"])) H' ∧ H' L = some (.lst ((List.replicate i true).map V.bl))) ⟨same_upd nL, upd_same⟩ (fun i H' hi p => ?_) (fun H' p => ?_)
        · obtain ⟨sm, hL⟩ := p
          have hi : i < ds.length := by omega
          obtain ⟨x, ex, dx⟩ := Paired.at' px (List.getElem?_eq_getElem hi)
          obtain ⟨y, ey, dy⟩ := Paired.at' py (List.getElem?_eq_getElem hi)
          have sA : Same H H' := st.trans sm
          refine ⟨rfl, yesT ⟨_, rfl, _, rfl, ixL ⟨a1, xs, 0 + i, x, rfl, rfl, .of (sA _ _ hx), atI_of (by omega) (by rw [show (0 + (i : Int)).toNat = i by omega]; exact ex), _, rfl, _, rfl, ixL ⟨a2, ys, 0 + i, y, rfl, rfl, .of (sA _ _ hy), atI_of (by omega) (by rw [show (0 + (i : Int)).toNat = i by omega]; exact ey), ?_⟩⟩⟩⟩
          refine ⟨x, y, _, rfl, dx.same sA, dy.same sA, fun H2 s2 => ⟨_, s2 _ _ hL, ?_, same_grow nL (sm.trans s2), ?_⟩⟩
          · simp only [List.length_map, List.length_replicate]
            exact small (by omega)
          · rw [upd_same, List.replicate_succ', List.map_append]
            rfl
        · refine ⟨L, _, rfl, .of p.2, ?_⟩
          rw [all_rep]
          exact q H' (st.trans p.1)
      · obtain ⟨_, _, _, _, _, e2, _⟩ := h2
        cases e2
    · obtain ⟨a1, xs, ds, rfl, hx, rfl, px, ld⟩ := h1
      rcases h2 with h2 | h2 | h2
      · exact (dsc_tup h2).elim
      · obtain ⟨_, _, _, _, _, e2, _⟩ := h2
        cases e2
      · obtain ⟨a2, ys, ds2, rfl, hy, e2, py, _⟩ := h2
        cases e2
        have l1 : xs.length = ds.length := Paired.len px
        have l2 : ys.length = ds.length := Paired.len py
        refine ⟨_, rfl, (by show 2 ≤ sizeLine; decide), fun tp nt => ⟨_, tp, _, _, _, true, rfl, upd_same, .cons (.ty "list") (.cons (.ty "tuple") .nil), .base (.tup (same_upd nt _ _ hy)), kit_tup, true, rfl, iteT ?_⟩⟩
        have st : Same H (upd H tp (.tup [.ty "list", .ty "tuple"])) := same_upd nt
        refine ⟨_, rfl, _, _, _, _, false, rfl, .ty "list", .base (.tup (st _ _ hx)), kit_ty (by decide +kernel), _, rfl, _, _, _, _, false, rfl, .ty "list", .base (.tup (st _ _ hy)), kit_ty (by decide +kernel), rfl, _, rfl, iteN (by decide) ?_⟩
        refine ⟨_, rfl, _, _, _, _, true, rfl, .ty "tuple", .base (.tup (st _ _ hx)), kit_ty (by decide +kernel), _, rfl, _, _, _, _, true, rfl, .ty "tuple", .base (.tup (st _ _ hy)), kit_ty (by decide +kernel), rfl, _, rfl, iteN (by decide) ?_⟩
        refine ⟨_, rfl, a1, xs, rfl, .inr (.of (st _ _ hx)), _, rfl, a2, ys, rfl, .inr (.of (st _ _ hy)), rfl, true, ?_, iteT ?_⟩
        · rw [l1, l2]
          exact congrArg V.bl (decide_eq_true rfl)
        refine ⟨_, rfl, a2, ys, rfl, .inr (.of (st _ _ hy)), _, rfl, by omega, by omega, fun L nL => ?_⟩
        refine lc_range (lo := 0) (n := ((ys.length : Int)).toNat) (fun i H' => Same (upd H tp (.tup [.ty "list", .ty "tuple"])) H' ∧ H' L = some (.lst ((List.replicate i true).map V.bl))) ⟨same_upd nL, upd_same⟩ (fun i H' hi p => ?_) (fun H' p => ?_)
        · obtain ⟨sm, hL⟩ := p
          have hi : i < ds.length := by omega
          obtain ⟨x, ex, dx⟩ := Paired.at' px (List.getElem?_eq_getElem hi)
          obtain ⟨y, ey, dy⟩ := Paired.at' py (List.getElem?_eq_getElem hi)
          have sA : Same H H' := st.trans sm
          refine ⟨rfl, yesT ⟨_, rfl, _, rfl, ixT ⟨a1, xs, 0 + i, x, rfl, rfl, .of (sA _ _ hx), atI_of (by omega) (by rw [show (0 + (i : Int)).toNat = i by omega]; exact ex), _, rfl, _, rfl, ixT ⟨a2, ys, 0 + i, y, rfl, rfl, .of (sA _ _ hy), atI_of (by omega) (by rw [show (0 + (i : Int)).toNat = i by omega]; exact ey), ?_⟩⟩⟩⟩
          refine ⟨x, y, _, rfl, dx.same sA, dy.same sA, fun H2 s2 => ⟨_, s2 _ _ hL, ?_, same_grow nL (sm.trans s2), ?_⟩⟩
          · simp only [List.length_map, List.length_replicate]
            exact small (by omega)
          · rw [upd_same, List.replicate_succ', List.map_append]
            rfl
        · refine ⟨L, _, rfl, .of p.2, ?_⟩
          rw [all_rep]
          exact q H' (st.trans p.1)
theorem ok_law_same (D : Df K mg "_law_same" s_law_same) (T : Tx mg) : ∀ n, Has P w K mg base (n + 2) "_law_same" ["found", "due"] (sp_law_same n)
  | 0 => step_law_same D T 0 (none_law_same D)
  | n + 1 => step_law_same D T (n + 1) (ok_law_same D T n)
end
end UP

set_option Elab.async false
set_option linter.all false
set_option maxRecDepth 100000
set_option maxHeartbeats 4000000
namespace UP
open PySem PySem.Spec PyProof.Rows L2
/-! ### a walk over one object that stays, whatever else is changed -/
structure WkA (J : It) (H : Hp) (a : Addr) (xs : List V) : Prop where
  go : ∀ i H', H' a = H a → i < xs.length → J.go i H'
  stop : ∀ H', H' a = H a → J.stop xs.length H'
  yld : ∀ i x H' H'', H' a = H a → J.yld i H' x H'' → H'' = H' ∧ xs[i]? = some x
def iSeqA (i : Nat) : TI := fun σ H R => ∃ a xs, σ[i]? = some (some (.ref a)) ∧ Sq2 H a xs ∧ ∀ J, WkA J H a xs → R J H
section
variable {X : Cx}
theorem wka_list {K : PySem.W.Frag} {H : Hp} {a : Addr} {xs : List V} (h : H a = some (.lst xs)) : WkA (Itl K a) H a xs :=
  ⟨fun i H' e hi => ⟨xs, xs[i], .of (e.trans h), List.getElem?_eq_getElem hi⟩, fun H' e => ⟨xs, .of (e.trans h), Nat.le_refl _⟩, fun i x H' H'' e y => ⟨y.1, y.2 xs (.of (e.trans h))⟩⟩
theorem wka_tup {K : PySem.W.Frag} {H : Hp} {a : Addr} {xs : List V} (h : H a = some (.tup xs)) : WkA (Itt K a) H a xs :=
  ⟨fun i H' e hi => ⟨xs, xs[i], .of (e.trans h), List.getElem?_eq_getElem hi⟩, fun H' e => ⟨xs, .of (e.trans h), Nat.le_refl _⟩, fun i x H' H'' e y => ⟨y.1, y.2 xs (.of (e.trans h))⟩⟩
theorem pi_seqA (i : Nat) {x : Str} {pos : Pos} {tg : Expr} (hN : X.N[i]? = some x := by rfl) (hv : Vis X.env.scope x := by first | exact Or.inl rfl | exact Or.inr (Or.inl rfl) | exact Or.inr (Or.inr rfl)) (hd : (x == ("__debug__" : Str)) = false := by decide)
    (hc : (x == ("__classdict__" : Str)) = false := by decide) : PI X tg (.Name x pos) (iSeqA i) := by
  refine ⟨fun pins s σ H R I hw => ?_⟩
  obtain ⟨a, xs, e, h, k⟩ := hw
  rcases h with h | h
  · exact (pi_list (pe_var hN hv hd hc)).run pins s σ H R I ⟨_, e, a, rfl, ⟨xs, .of h⟩, k _ (wka_list h)⟩
  · exact (pi_tup (pe_var hN hv hd hc)).run pins s σ H R I ⟨_, e, a, rfl, ⟨xs, .of h⟩, k _ (wka_tup h)⟩
end
theorem lc_wka {J : It} {H0 H1 : Hp} {a : Addr} {xs : List V} {g : TG} {tt : TT} {te : TE} {vs : List Nat} {σ : L2.St} {D : Addr} {Qd : Hp → Prop} (wk : WkA J H0 a xs) (Pv : Nat → Hp → Prop) (hsm : ∀ i H, Pv i H → H a = H0 a) (h0 : Pv 0 (upd H1 D (.lst [])))
    (hs : ∀ i x H, xs[i]? = some x → Pv i H → g x (wipe σ vs) H fun σ2 H2 => wipe σ2 vs = wipe σ vs ∧ tt σ2 H2 fun b H3 =>
      if b = true then te σ2 H3 fun y H4 => ∃ acc, H4 D = some (.lst acc) ∧ acc.length < sizeLine ∧ Pv (i + 1) (upd H4 D (.lst (acc ++ [y]))) else Pv (i + 1) H3) (hd : ∀ H, Pv xs.length H → Qd H) :
    ∃ W : Nat → Nat → Hp → Prop, (∃ m, W 0 m (upd H1 D (.lst []))) ∧ ∀ i m H, W i m H →
      (J.stop i H ∧ Qd H) ∨ (J.go i H ∧ ∃ Nx : Hp → Prop, (∀ H', Nx H' → ∃ m', m' < m ∧ W (i + 1) m' H') ∧ ∀ x H', J.yld i H x H' → g x (wipe σ vs) H' fun σ2 H2 => wipe σ2 vs = wipe σ vs ∧ tt σ2 H2 fun b H3 =>
        if b = true then te σ2 H3 fun y H4 => ∃ acc, H4 D = some (.lst acc) ∧ acc.length < sizeLine ∧ Nx (upd H4 D (.lst (acc ++ [y]))) else Nx H3) := by
  refine lc_gen Pv h0 (fun i H hi p => wk.go i H (hsm i H p) hi) (fun H p => wk.stop H (hsm _ H p)) (fun i x H H' hi p y => ?_) hd
  obtain ⟨e, ex⟩ := wk.yld i x H H' (hsm i H p) y
  subst e
  exact hs i x _ ex p
theorem for_gen {J : It} {n : Nat} {H : Hp} {g : TG} {tb : TS} {D : Ends} {σ : L2.St} (Pv : Nat → L2.St → Hp → Prop) (h0 : Pv 0 σ H) (hg : ∀ i σ H, i < n → Pv i σ H → J.go i H) (hst : ∀ σ H, Pv n σ H → J.stop n H)
    (hs : ∀ i x σ H H', i < n → Pv i σ H → J.yld i H x H' → g x σ H' fun σ2 H2 => tb { D with nx := Pv (i + 1), ct := Pv (i + 1), bk := D.nx } σ2 H2) (hd : ∀ σ H, Pv n σ H → D.nx σ H) :
    ∃ W : Nat → Nat → L2.St → Hp → Prop, (∃ m, W 0 m σ H) ∧ ∀ i m σ H, W i m σ H →
      (J.stop i H ∧ D.nx σ H) ∨ (J.go i H ∧ ∃ N : L2.St → Hp → Prop, (∀ σ' H', N σ' H' → ∃ m', m' < m ∧ W (i + 1) m' σ' H') ∧ ∀ x H', J.yld i H x H' → g x σ H' fun σ2 H2 => tb { D with nx := N, ct := N, bk := D.nx } σ2 H2) := by
  refine ⟨fun i m σ H => m = n - i ∧ i ≤ n ∧ Pv i σ H, ⟨n, by omega, Nat.zero_le _, h0⟩, ?_⟩
  rintro i m σ H ⟨rfl, hi, p⟩
  by_cases hlt : i < n
  · exact Or.inr ⟨hg i σ H hlt p, Pv (i + 1), fun σ' H' p' => ⟨n - (i + 1), by omega, rfl, hlt, p'⟩, fun x H' y => hs i x σ H H' hlt p y⟩
  · have e : i = n := by omega
    subst e
    exact Or.inl ⟨hst σ H p, hd σ H p⟩
theorem for_wka {J : It} {H0 H : Hp} {a : Addr} {xs : List V} {g : TG} {tb : TS} {D : Ends} {σ : L2.St} (wk : WkA J H0 a xs) (Pv : Nat → L2.St → Hp → Prop) (hsm : ∀ i σ H, Pv i σ H → H a = H0 a) (h0 : Pv 0 σ H)
    (hs : ∀ i x σ H, xs[i]? = some x → Pv i σ H → g x σ H fun σ2 H2 => tb { D with nx := Pv (i + 1), ct := Pv (i + 1), bk := D.nx } σ2 H2) (hd : ∀ σ H, Pv xs.length σ H → D.nx σ H) :
    ∃ W : Nat → Nat → L2.St → Hp → Prop, (∃ m, W 0 m σ H) ∧ ∀ i m σ H, W i m σ H →
      (J.stop i H ∧ D.nx σ H) ∨ (J.go i H ∧ ∃ N : L2.St → Hp → Prop, (∀ σ' H', N σ' H' → ∃ m', m' < m ∧ W (i + 1) m' σ' H') ∧ ∀ x H', J.yld i H x H' → g x σ H' fun σ2 H2 => tb { D with nx := N, ct := N, bk := D.nx } σ2 H2) := by
  refine for_gen Pv h0 (fun i σ H hi p => wk.go i H (hsm i σ H p) hi) (fun σ H p => wk.stop H (hsm _ σ H p)) (fun i x σ H H' hi p y => ?_) hd
  obtain ⟨e, ex⟩ := wk.yld i x H H' (hsm i σ H p) y
  subst e
  exact hs i x σ _ ex p
theorem Sq2.eq {H H' : Hp} {a : Addr} {xs : List V} (h : Sq2 H a xs) (s : Same H H') : H' a = H a := h.elim (fun z => (s _ _ z).trans z.symm) (fun z => (s _ _ z).trans z.symm)
/-! ### data without its dress -/
def Sim (N : Addr → Prop) (H : Hp) : Nat → V → PyData → Prop
  | 0, v, d => Dsc v d
  | n + 1, v, d => Dsc v d ∨ ∃ a xs ds, v = .ref a ∧ N a ∧ Sq2 H a xs ∧ d = .list ds ∧ Paired (Sim N H n) xs ds ∧ ds.length ≤ 1000
theorem Sim.keep {N N' : Addr → Prop} {H H' : Hp} (hn : ∀ a, N a → N' a) (hk : ∀ a o, N a → H a = some o → H' a = some o) : ∀ {n : Nat} {v : V} {d : PyData}, Sim N H n v d → Sim N' H' n v d
  | 0, _, _, h => h
  | n + 1, v, d, h => by
    rcases h with h | ⟨a, xs, ds, e, na, hx, e2, p, l⟩
    · exact .inl h
    · exact .inr ⟨a, xs, ds, e, hn a na, hx.elim (fun z => .inl (hk _ _ na z)) (fun z => .inr (hk _ _ na z)), e2, Paired.imp (fun _ _ z => Sim.keep hn hk z) p, l⟩
theorem Sim.dsc {N : Addr → Prop} {H : Hp} {v : V} {d : PyData} : ∀ {n : Nat}, Dsc v d → Sim N H n v d
  | 0, h => h
  | n + 1, h => .inl h
section
variable {P : Program} {w : World} {K : PySem.W.Frag} {mg : Str → Option Value} {base : Heap}
/-! _law_dressed: slots 0:spring 1:value 2:parts 3:part -/
abbrev s_law_dressed : Stmt := topS 18
theorem sc_law_dressed : FnScope ["spring", "value", "parts", "part"] ["spring", "value"] (defScope s_law_dressed) := ⟨rfl, rfl, rfl, by decide +kernel, rfl, by decide +kernel, by decide +kernel⟩
def sp_law_dressed (n : Nat) : Sp := fun vs H Q _ => ∃ (sp : Addr) (v : V) (d : PyData), vs = [.ref sp, v] ∧ Spr H sp ∧ Sim (· ≠ sp) H n v d ∧ ∀ H' v', But sp H H' → Spr H' sp → Sim (fun a => H a = none) H' n v' d → Q v' H'
def sp_pred : Nat → Sp
  | 0 => sp_none
  | n + 1 => sp_law_dressed n
theorem none_law_dressed (D : Df K mg "_law_dressed" s_law_dressed) : Has P w K mg base 1 "_law_dressed" ["spring", "value"] sp_none :=
  has_of D sc_law_dressed (fun _ _ _ _ _ _ us hl => match us, hl with | [_, _], _ => rfl) (fun _ _ _ _ h => h.elim) (fun _ _ _ _ _ _ _ _ _ _ h => h.elim)
theorem step_law_dressed (D : Df K mg "_law_dressed" s_law_dressed) (T : Tx mg) (m : Nat) (G_law_draw : Has P w K mg base 1 "_law_draw" ["spring", "many"] sp_law_draw) (G_law_dressed : Has P w K mg base (m + 1) "_law_dressed" ["spring", "value"] (sp_pred m)) :
    Has P w K mg base (m + 2) "_law_dressed" ["spring", "value"] (sp_law_dressed m) := by
  refine has_of D sc_law_dressed (fun _ _ _ _ _ _ us hl => match us, hl with | [_, _], _ => rfl) (fun vs H Q E h => ?_) (fun f cdv A outer s H vs Q E hr h => ?_)
  · obtain ⟨_, _, _, rfl, _⟩ := h
    rfl
  · obtain ⟨sp, v, d, rfl, hz, hv, q⟩ := h
    refine ⟨_, (pss_cons (ps_if (pt_not (pt_val (pe_callB call_isiT (by rfl) T.n_isinstance (by decide +kernel) (pa_cons (pv 1) (pa_cons (pe_tup (pa_cons (pe_bltn (v := .ty "list") (by rfl) T.n_list (by decide +kernel) rfl) (pa_cons (pe_bltn (v := .ty "tuple") (by rfl) T.n_tuple (by decide +kernel) rfl) pa_nil))) pa_nil))))) (pss_one (ps_ret (pv 1))) pss_nil)
    (pss_cons (ps_setLc (i := 2) (own := [("part", 3)]) rfl sc_law_dressed.nd rfl rfl (sw_true rfl rfl rfl (by decide +kernel)) (pi_seqA 1) (blkOk_by (N := ["spring", "value", "parts", "part"]) (sc := defScope s_law_dressed) (by decide +kernel)) (fun _ _ _ _ _ => (pg_name (i := 3) sc_law_dressed.nd rfl (by first | exact Or.inl rfl | exact Or.inr rfl))) (fun _ _ _ _ _ => pts_nil) (fun _ _ _ _ _ => (pe_callH G_law_dressed (hr.mono (by omega)) (by rfl) (pa_cons (pv 0) (pa_cons (pv 3) pa_nil)))))
    (pss_one (ps_ret (pe_ifExp (pt_cmpR op_eq (pe_callH G_law_draw (hr.mono (by omega)) (by rfl) (pa_cons (pv 0) (pa_cons pe_int pa_nil))) pe_int (nomark _)) (pv 2) (pe_callTy call_tuple_of (by rfl) T.n_tuple (by decide +kernel) (pa_cons (pv 2) pa_nil))))))), ?_⟩
    have hs : Dsc v d ∨ ∃ n, m = n + 1 ∧ ∃ a xs ds, v = .ref a ∧ a ≠ sp ∧ Sq2 H a xs ∧ d = .list ds ∧ Paired (Sim (· ≠ sp) H n) xs ds ∧ ds.length ≤ 1000 := by
      cases m with
      | zero => exact .inl hv
      | succ n =>
        rcases hv with hv | hv
        · exact .inl hv
        · exact .inr ⟨n, rfl, hv⟩
    rcases hs with hs | ⟨n, rfl, a, xs, ds, rfl, na, hx, rfl, px, ld⟩
    · have fin : ∀ t, H t = none → Q v (upd H t (.tup [.ty "list", .ty "tuple"])) := fun t nt => q _ _ (sb (same_upd nt)) (hz.same (same_upd nt)) (Sim.dsc hs)
      rcases hs with ⟨rfl, _⟩ | ⟨b, rfl, _⟩ | ⟨i, rfl, _⟩ | ⟨z, rfl, _⟩
      · exact ⟨_, rfl, (by show 2 ≤ sizeLine; decide), fun tp nt => ⟨_, tp, _, _, _, false, rfl, upd_same, .cons (.ty "list") (.cons (.ty "tuple") .nil), .base .non, kit_no (by decide +kernel) (by decide +kernel), false, rfl, iteT ⟨_, rfl, fin tp nt⟩⟩⟩
      · exact ⟨_, rfl, (by show 2 ≤ sizeLine; decide), fun tp nt => ⟨_, tp, _, _, _, false, rfl, upd_same, .cons (.ty "list") (.cons (.ty "tuple") .nil), .base (.bl b), kit_no (by decide +kernel) (by decide +kernel), false, rfl, iteT ⟨_, rfl, fin tp nt⟩⟩⟩
      · exact ⟨_, rfl, (by show 2 ≤ sizeLine; decide), fun tp nt => ⟨_, tp, _, _, _, false, rfl, upd_same, .cons (.ty "list") (.cons (.ty "tuple") .nil), .base (.int i), kit_no (by decide +kernel) (by decide +kernel), false, rfl, iteT ⟨_, rfl, fin tp nt⟩⟩⟩
      · exact ⟨_, rfl, (by show 2 ≤ sizeLine; decide), fun tp nt => ⟨_, tp, _, _, _, false, rfl, upd_same, .cons (.ty "list") (.cons (.ty "tuple") .nil), .base (.str z), kit_no (by decide +kernel) (by decide +kernel), false, rfl, iteT ⟨_, rfl, fin tp nt⟩⟩⟩
    · have lx : xs.length = ds.length := Paired.len px
      refine ⟨_, rfl, (by show 2 ≤ sizeLine; decide), fun tp nt => ?_⟩
      have st : Same H (upd H tp (.tup [.ty "list", .ty "tuple"])) := same_upd nt
      have go : ∃ t : Bool, t = true ∧ True := ⟨true, rfl, trivial⟩
      clear go
      have z1 := hz.same st
      have hx1 := hx.same st
      have px1 : Paired (Sim (· ≠ sp) (upd H tp (.tup [.ty "list", .ty "tuple"])) n) xs ds := Paired.imp (fun _ _ z => Sim.keep (fun _ h => h) (fun _ _ _ e => st _ _ e) z) px
      have fr1 : ∀ b, (upd H tp (.tup [.ty "list", .ty "tuple"])) b = none → H b = none := fun b e => st.free e
      have B1 : But sp H (upd H tp (.tup [.ty "list", .ty "tuple"])) := sb st
      have tpT : (upd H tp (.tup [.ty "list", .ty "tuple"])) tp = some (.tup [.ty "list", .ty "tuple"]) := upd_same
      clear px
      generalize (upd H tp (.tup [.ty "list", .ty "tuple"])) = H1 at z1 hx1 px1 fr1 B1 tpT
      have tail : ∀ (J : It), WkA J H1 a xs → ∀ L, H1 L = none → ∃ (Pv : Nat → Hp → Prop), Pv = fun i H' => But sp H1 H' ∧ Spr H' sp ∧ ∃ ys, H' L = some (.lst ys) ∧ Paired (Sim (fun b => H1 b = none ∧ b ≠ L) H' n) ys (ds.take i) := fun _ _ _ _ => ⟨_, rfl⟩
      clear tail
      have isi : ∃ c, TyX K H1 (.ref a) (.type c) ∧ PySem.W.kitAny K (.type c) [.type "list", .type "tuple"] = some true := hx1.elim (fun z => ⟨"list", .base (.lst z), kit_lst⟩) (fun z => ⟨"tuple", .base (.tup z), kit_tup⟩)
      obtain ⟨c, ty, ki⟩ := isi
      refine ⟨_, tp, _, _, _, true, rfl, tpT, .cons (.ty "list") (.cons (.ty "tuple") .nil), ty, ki, true, rfl, iteF ?_⟩
      refine ⟨a, xs, rfl, hx1, fun J wk L nL => ?_⟩
      have nLs : L ≠ sp := Spr.ne z1 nL
      refine lc_wka wk (fun i H' => But sp H1 H' ∧ Spr H' sp ∧ ∃ ys, H' L = some (.lst ys) ∧ Paired (Sim (fun b => H1 b = none ∧ b ≠ L) H' n) ys (ds.take i)) (fun i H' p => ?_) ⟨sb (same_upd nL), z1.same (same_upd nL), [], upd_same, .nil⟩ (fun i x H2 ex p => ?_) (fun H2 p => ?_)
      · rcases hx1 with z | z
        · exact (p.1 _ _ na z).trans z.symm
        · exact (p.1 _ _ na z).trans z.symm
      · obtain ⟨b2, z2, ys, hL, hy⟩ := p
        obtain ⟨d, ed, hd⟩ := Paired.at px1 ex
        have hi : i < xs.length := (List.getElem?_eq_some_iff.mp ex).1
        refine ⟨rfl, yesT ⟨_, rfl, _, rfl, sp, x, d, rfl, z2, Sim.keep (fun _ h => h) (fun b o nb e => b2 b o nb e) hd, fun H3 v3 b3 z3 h3 => ⟨ys, b3 _ _ nLs hL, ?_, ?_, ?_, _, upd_same, ?_⟩⟩⟩
        · have := Paired.len hy
          rw [List.length_take] at this
          exact small (by omega)
        · intro b o nb e
          rw [upd_ne (ne_of_none e nL)]
          exact b3 b o nb (b2 b o nb e)
        · obtain ⟨x1, x2, x3, hsp, rest⟩ := z3
          refine ⟨x1, x2, x3, ?_, rest⟩
          rw [upd_ne nLs.symm]
          exact hsp
        · have old : ∀ b o, (H1 b = none ∧ b ≠ L) → H2 b = some o → upd H3 L (.lst (ys ++ [v3])) b = some o := by
            intro b o nb e
            rw [upd_ne nb.2]
            refine b3 b o (fun z => ?_) e
            rw [z] at nb
            obtain ⟨_, _, _, hsp, _⟩ := z1
            rw [hsp] at nb
            cases nb.1
          rw [take_snoc ed]
          refine Paired.app (Paired.imp (fun _ _ z => Sim.keep (fun _ h => h) old z) hy) (.cons (Sim.keep (fun b nb => ?_) (fun b o nb e => ?_) h3) .nil)
          · exact ⟨b2.free z2 nb, fun z => by rw [z, hL] at nb; cases nb⟩
          · rw [upd_ne (fun z => by rw [z, hL] at nb; cases nb)]
            exact e
      · obtain ⟨b2, z2, ys, hL, hy⟩ := p
        rw [lx, List.take_length] at hy
        have ly := Paired.len hy
        refine ⟨_, rfl, sp, 2, rfl, z2, by decide, by decide, fun H3 r3 b3 z3 r30 r31 => ⟨rfl, _, rfl, ?_⟩⟩
        have hL3 := b3 _ _ nLs hL
        have hy3 : Paired (Sim (fun b => H b = none) H3 n) ys ds := Paired.imp (fun _ _ z => Sim.keep (fun b nb => fr1 b nb.1) (fun b o nb e => b3 b o (fun z => by
          rw [z] at nb
          obtain ⟨_, _, _, hsp, _⟩ := z1
          rw [hsp] at nb
          cases nb.1) e) z) hy
        have B3 : But sp H H3 := B1.trans (b2.trans b3)
        by_cases e : r3 = 0
        · subst e
          exact iteP (decide_eq_true rfl) ⟨_, rfl, q _ _ B3 z3 (.inr ⟨L, ys, ds, rfl, fr1 L nL, .inl hL3, rfl, hy3, ld⟩)⟩
        · refine iteN (decide_eq_false fun z => e (V.int.inj z)) ⟨_, rfl, L, ys, rfl, .inl ⟨.of hL3, fun p np => q _ _ (B3.trans (sb (same_upd np))) (z3.same (same_upd np)) (.inr ⟨p, ys, ds, rfl, B3.free z3 np, .inr upd_same, rfl, ?_, ld⟩)⟩⟩
          exact Paired.imp (fun _ _ z => Sim.keep (fun _ h => h) (fun _ _ _ e => same_upd np _ _ e) z) hy3
theorem ok_law_dressed (D : Df K mg "_law_dressed" s_law_dressed) (T : Tx mg) (G_law_draw : Has P w K mg base 1 "_law_draw" ["spring", "many"] sp_law_draw) : ∀ n, Has P w K mg base (n + 2) "_law_dressed" ["spring", "value"] (sp_law_dressed n)
  | 0 => step_law_dressed D T 0 G_law_draw (none_law_dressed D)
  | n + 1 => step_law_dressed D T (n + 1) G_law_draw (ok_law_dressed D T G_law_draw n)
end
end UP

set_option Elab.async false
set_option linter.all false
set_option maxRecDepth 100000
set_option maxHeartbeats 4000000
namespace UP
open PySem PySem.Spec PyProof.Rows L2
/-! ### waiting items one by one -/
def plS (ws : List Run) (k : Str) (n : Nat) : List Run := match ws with
  | [] => [(k, (n : Int))]
  | r :: t => if r.1 = k then (r :: t) ++ [(k, (n : Int))] else t
def plP (ws : List Run) (k : Str) (n : Nat) : List (Int × Int) := match ws with
  | [] => []
  | r :: _ => if r.1 = k then [] else [(r.2, (n : Int))]
def plA (ws : List Run) (n : Nat) : List Str → List Run
  | [] => ws
  | k :: t => plA (plS ws k n) (n + 1) t
def psR (ws : List Run) (n : Nat) : List Str → List (Int × Int)
  | [] => []
  | k :: t => plP ws k n ++ psR (plS ws k n) (n + 1) t
theorem plA_snoc : ∀ (l : List Str) (ws : List Run) (n : Nat) (k : Str), plA ws n (l ++ [k]) = plS (plA ws n l) k (n + l.length)
  | [], ws, n, k => rfl
  | x :: t, ws, n, k => by
    show plA (plS ws x n) (n + 1) (t ++ [k]) = plS (plA (plS ws x n) (n + 1) t) k (n + (x :: t).length)
    rw [plA_snoc t, List.length_cons, show n + 1 + t.length = n + (t.length + 1) by omega]
theorem psR_snoc : ∀ (l : List Str) (ws : List Run) (n : Nat) (k : Str), psR ws n (l ++ [k]) = psR ws n l ++ plP (plA ws n l) k (n + l.length)
  | [], ws, n, k => by
    show plP ws k n ++ [] = [] ++ plP ws k (n + 0)
    rw [List.append_nil, List.nil_append, Nat.add_zero]
  | x :: t, ws, n, k => by
    show plP ws x n ++ psR (plS ws x n) (n + 1) (t ++ [k]) = (plP ws x n ++ psR (plS ws x n) (n + 1) t) ++ plP (plA (plS ws x n) (n + 1) t) k (n + (x :: t).length)
    rw [psR_snoc t, List.length_cons, List.append_assoc, show n + 1 + t.length = n + (t.length + 1) by omega]
def plMs (ws : List Run) (ks : List Str) : List (List Run) := (List.range (ks.length + 1)).map fun m => plA ws 0 (ks.take m)
theorem plMs_snoc (ws : List Run) (l : List Str) (k : Str) : plMs ws (l ++ [k]) = plMs ws l ++ [plA ws 0 (l ++ [k])] := by
  unfold plMs
  rw [List.length_append, List.length_cons, List.length_nil, Nat.zero_add, List.range_succ, List.map_append]
  congr 1
  · refine List.map_congr_left fun m hm => ?_
    have : m ≤ l.length := by
      have := List.mem_range.mp hm
      omega
    rw [List.take_append_of_le_length this]
  · rw [List.map_singleton, List.take_of_length_le (by rw [List.length_append]; exact Nat.le_refl _)]
theorem plMs_nil (ws : List Run) : plMs ws [] = [ws] := rfl
theorem plMs_len (ws : List Run) (l : List Str) : (plMs ws l).length = l.length + 1 := by
  unfold plMs
  rw [List.length_map, List.length_range]
theorem plS_len (ws : List Run) (k : Str) (n : Nat) : (plS ws k n).length ≤ ws.length + 1 := by
  cases ws with
  | nil => exact Nat.le_refl _
  | cons r t =>
    show (if r.1 = k then (r :: t) ++ [(k, (n : Int))] else t).length ≤ _
    split
    · rw [List.length_append]
      exact Nat.le_refl _
    · rw [List.length_cons]
      omega
theorem plA_len : ∀ (l : List Str) (ws : List Run) (n : Nat), (plA ws n l).length ≤ ws.length + l.length
  | [], ws, n => Nat.le_refl _
  | k :: t, ws, n => by
    have h1 := plA_len t (plS ws k n) (n + 1)
    have h2 := plS_len ws k n
    show (plA (plS ws k n) (n + 1) t).length ≤ _
    rw [List.length_cons]
    omega
theorem plP_len (ws : List Run) (k : Str) (n : Nat) : (plP ws k n).length ≤ 1 := by
  cases ws with
  | nil => exact Nat.zero_le _
  | cons r t =>
    show (if r.1 = k then [] else [(r.2, (n : Int))]).length ≤ 1
    split <;> simp
theorem psR_len : ∀ (l : List Str) (ws : List Run) (n : Nat), (psR ws n l).length ≤ l.length
  | [], ws, n => Nat.le_refl _
  | k :: t, ws, n => by
    have h1 := psR_len t (plS ws k n) (n + 1)
    have h2 := plP_len ws k n
    show (plP ws k n ++ psR (plS ws k n) (n + 1) t).length ≤ _
    rw [List.length_append, List.length_cons]
    omega
theorem plS_kinds {ws : List Run} {k : Str} {n : Nat} (h : ∀ r ∈ ws, KindOk r.1) (hk : KindOk k) : ∀ r ∈ plS ws k n, KindOk r.1 := by
  intro r hr
  cases ws with
  | nil =>
    rw [List.mem_singleton.mp (show r ∈ [(k, (n : Int))] from hr)]
    exact hk
  | cons x t =>
    have hr : r ∈ (if x.1 = k then (x :: t) ++ [(k, (n : Int))] else t) := hr
    by_cases e : x.1 = k
    · rw [if_pos e] at hr
      rcases List.mem_append.mp hr with z | z
      · exact h r z
      · rw [List.mem_singleton.mp z]
        exact hk
    · rw [if_neg e] at hr
      exact h r (List.mem_cons_of_mem _ hr)
theorem plA_kinds : ∀ {l : List Str} {ws : List Run} {n : Nat}, (∀ r ∈ ws, KindOk r.1) → (∀ k ∈ l, KindOk k) → ∀ r ∈ plA ws n l, KindOk r.1
  | [], _, _, h, _ => h
  | k :: t, ws, n, h, hl => plA_kinds (l := t) (plS_kinds h (hl k (List.mem_cons_self ..))) fun x hx => hl x (List.mem_cons_of_mem _ hx)
def w0R : Option Run → List Run
  | none => []
  | some r => List.replicate r.2.toNat (r.1, -1)
def itR (rs : List Run) : List Str := rs.flatMap fun r => List.replicate r.2.toNat r.1
theorem itR_snoc (l : List Run) (r : Run) : itR (l ++ [r]) = itR l ++ List.replicate r.2.toNat r.1 := by
  unfold itR
  rw [List.flatMap_append]
  simp
def PV (H : Hp) (v : V) (p : Int × Int) : Prop := ∃ t, v = .ref t ∧ H t = some (.tup [.int p.1, .int p.2])
theorem PV.same {H H' : Hp} {v : V} {p : Int × Int} (s : Same H H') (h : PV H v p) : PV H' v p := by
  obtain ⟨t, e, h⟩ := h
  exact ⟨t, e, s _ _ h⟩
theorem PV.grow {H : Hp} {D : Addr} {acc acc' : List V} {v : V} {p : Int × Int} (hD : H D = some (.lst acc)) (h : PV H v p) : PV (upd H D (.lst acc')) v p := by
  obtain ⟨t, e, h⟩ := h
  refine ⟨t, e, ?_⟩
  rw [upd_ne (ne_of h hD (by intro q; cases q))]
  exact h
theorem Runs.grow {H : Hp} {D a : Addr} {acc acc' : List V} {ws : List Run} (hD : H D = some (.lst acc)) (n : a ≠ D) (h : Runs H a ws) : Runs (upd H D (.lst acc')) a ws := by
  obtain ⟨xs, hx, hp⟩ := h
  refine ⟨xs, ?_, prs_grow hD hp⟩
  rw [upd_ne n]
  exact hx
/-- a list of runs apart from two others -/
def WL (H : Hp) (M N : Addr) (v : V) (ws : List Run) : Prop := ∃ a, v = .ref a ∧ a ≠ M ∧ a ≠ N ∧ Runs H a ws
theorem WL.same {H H' : Hp} {M N : Addr} {v : V} {ws : List Run} (s : Same H H') (h : WL H M N v ws) : WL H' M N v ws := by
  obtain ⟨a, e, n1, n2, h⟩ := h
  exact ⟨a, e, n1, n2, h.same s⟩
/-- what the play keeps -/
structure Pl (H0 H : Hp) (W M N : Addr) (ws0 : List Run) (ks ls : List Str) : Prop where
  sm : Same H0 H
  wm : W ≠ M
  wn : W ≠ N
  wr : Runs H W (plA ws0 0 ls)
  ms : ∃ xs, H M = some (.lst xs) ∧ Paired (WL H M N) xs (plMs ws0 ks)
  ps : ∃ ys, H N = some (.lst ys) ∧ Paired (PV H) ys (psR ws0 0 ls)
theorem flat_one {α : Type} (x : α) : ∀ n : Nat, (List.replicate n [x]).flatten = List.replicate n x
  | 0 => rfl
  | n + 1 => by
    rw [List.replicate_succ, List.flatten_cons, flat_one x n]
    rfl
theorem paired_rep {α β : Type} {F : α → β → Prop} {a : α} {b : β} (h : F a b) : ∀ n : Nat, Paired F (List.replicate n a) (List.replicate n b)
  | 0 => .nil
  | n + 1 => .cons h (paired_rep h n)
theorem len_items {rs : List Run} (h : ∀ r ∈ rs, 1 ≤ r.2 ∧ r.2 ≤ 1000) : (itR rs).length ≤ 1000 * rs.length := by
  induction rs with
  | nil => exact Nat.le_refl _
  | cons r t ih =>
    have e : itR (r :: t) = List.replicate r.2.toNat r.1 ++ itR t := rfl
    have h1 := h r (List.mem_cons_self ..)
    have h2 := ih fun x hx => h x (List.mem_cons_of_mem _ hx)
    rw [e, List.length_append, List.length_replicate, List.length_cons]
    omega
end UP

set_option Elab.async false
set_option linter.all false
set_option maxRecDepth 100000
set_option maxHeartbeats 4000000
namespace UP
open PySem PySem.Spec PyProof.Rows L2
section
variable {P : Program} {w : World} {K : PySem.W.Frag} {mg : Str → Option Value} {base : Heap}
end
end UP

set_option Elab.async false
set_option linter.all false
set_option maxRecDepth 100000
set_option maxHeartbeats 4000000
namespace UP
open PySem PySem.Spec PyProof.Rows L2
/-! ### one arrival after the other -/
def stI (ks : List Str) (st : Option Run) : Option Run := ks.foldl (fun s k => stepR s k 1) st
theorem stI_app (l m : List Str) (st : Option Run) : stI (l ++ m) st = stI m (stI l st) := List.foldl_append ..
theorem step_same {r : Run} {k : Str} {c : Int} (h : r.1 = k) : stepR (some r) k c = some (k, r.2 + c) := if_pos h
theorem step_other {r : Run} {k : Str} {c : Int} (h : r.1 ≠ k) : stepR (some r) k c = if 0 < r.2 - c then some (r.1, r.2 - c) else if r.2 - c = 0 then none else some (k, -(r.2 - c)) := if_neg h
theorem step_step {s : Option Run} {k : Str} {c : Int} (h : PosO s) (hc : 1 ≤ c) : stepR (stepR s k 1) k c = stepR s k (1 + c) := by
  cases s with
  | none => exact step_same (r := (k, 1)) rfl
  | some r =>
    have r1 := h r rfl
    by_cases e : r.1 = k
    · rw [step_same e, step_same e, step_same (r := (k, r.2 + 1)) rfl]
      show some (k, r.2 + 1 + c) = _
      rw [Int.add_assoc]
    · rw [step_other e, step_other e]
      by_cases h1 : 0 < r.2 - 1
      · rw [if_pos h1, step_other (r := (r.1, r.2 - 1)) e]
        show (if 0 < r.2 - 1 - c then some (r.1, r.2 - 1 - c) else if r.2 - 1 - c = 0 then none else some (k, -(r.2 - 1 - c))) = _
        rw [show r.2 - 1 - c = r.2 - (1 + c) by omega]
      · have e2 : r.2 - 1 = 0 := by omega
        rw [if_neg h1, if_pos e2, if_neg (by omega), if_neg (by omega)]
        show some (k, c) = _
        rw [show -(r.2 - (1 + c)) = c by omega]
theorem it_step : ∀ (n : Nat) (s : Option Run) (k : Str), PosO s → stI (List.replicate (n + 1) k) s = stepR s k ((n : Int) + 1)
  | 0, s, k, _ => rfl
  | n + 1, s, k, h => by
    show stI (List.replicate (n + 1) k) (stepR s k 1) = _
    rw [it_step n _ k (stepR_pos h (by decide)), step_step h (by omega)]
    congr 1
    omega
theorem st_items : ∀ (rs : List Run) (st : Option Run), PosO st → (∀ r ∈ rs, 1 ≤ r.2) → stR rs st = stI (itR rs) st
  | [], st, _, _ => rfl
  | r :: t, st, h, k => by
    have c1 := k r (List.mem_cons_self ..)
    have e : itR (r :: t) = List.replicate r.2.toNat r.1 ++ itR t := rfl
    obtain ⟨n, hn⟩ : ∃ n : Nat, r.2.toNat = n + 1 := ⟨r.2.toNat - 1, by omega⟩
    rw [e, stI_app, hn, it_step n _ _ h, stR_cons, show ((n : Int) + 1) = r.2 by omega]
    exact st_items t _ (stepR_pos h c1) fun x hx => k x (List.mem_cons_of_mem _ hx)
theorem take_app {α : Type} : ∀ (l m : List α) (n : Nat), (l ++ m).take n = l.take n ++ m.take (n - l.length)
  | [], m, n => by
    rw [List.nil_append, List.take_nil, List.nil_append, List.length_nil, Nat.sub_zero]
  | x :: t, m, 0 => by
    rw [List.take_zero, List.take_zero, Nat.zero_sub, List.take_zero]
    rfl
  | x :: t, m, n + 1 => by
    rw [List.cons_append, List.take_succ_cons, take_app t m n, List.take_succ_cons, List.length_cons, Nat.add_sub_add_right]
    rfl
theorem it_app (l m : List Run) : itR (l ++ m) = itR l ++ itR m := List.flatMap_append ..
theorem cut_items (e : Int) : ∀ (rs : List Run) (b : Int), 0 ≤ b → (∀ r ∈ rs, 1 ≤ r.2) → itR (cutR 0 e b rs) = (itR rs).take (e - b).toNat
  | [], b, _, _ => by
    show ([] : List Str) = ([] : List Str).take _
    rw [List.take_nil]
  | r :: t, b, hb, k => by
    have c1 := k r (List.mem_cons_self ..)
    have ih := cut_items e t (b + r.2) (by omega) fun x hx => k x (List.mem_cons_of_mem _ hx)
    have e1 : cutR 0 e b (r :: t) = pieceR b 0 e r ++ cutR 0 e (b + r.2) t := rfl
    have e2 : itR (r :: t) = List.replicate r.2.toNat r.1 ++ itR t := rfl
    rw [e1, it_app, ih, e2, take_app, List.length_replicate, List.take_replicate, show (e - (b + r.2)).toNat = (e - b).toNat - r.2.toNat by omega]
    congr 1
    have es : sizeR b 0 e r.2 = (if b + r.2 < e then b + r.2 else e) - b := by
      unfold sizeR
      by_cases h0 : b > 0
      · rw [if_pos h0]
      · rw [if_neg h0, show b = 0 by omega]
    by_cases hs : 0 < sizeR b 0 e r.2
    · rw [show pieceR b 0 e r = [(r.1, sizeR b 0 e r.2)] from if_pos hs]
      show List.replicate (sizeR b 0 e r.2).toNat r.1 ++ [] = _
      rw [List.append_nil]
      congr 1
      rw [es] at hs ⊢
      split <;> omega
    · rw [show pieceR b 0 e r = [] from if_neg hs]
      rw [es] at hs
      rw [show min (e - b).toNat r.2.toNat = 0 by split at hs <;> omega]
      rfl
theorem len_it : ∀ (rs : List Run), (∀ r ∈ rs, 1 ≤ r.2) → ((itR rs).length : Int) = lenR rs
  | [], _ => rfl
  | r :: t, k => by
    have c1 := k r (List.mem_cons_self ..)
    have ih := len_it t fun x hx => k x (List.mem_cons_of_mem _ hx)
    have e2 : itR (r :: t) = List.replicate r.2.toNat r.1 ++ itR t := rfl
    rw [e2, List.length_append, List.length_replicate, lenR_cons]
    omega
/-! ### what is told of waiting items -/
def Uni (ws : List Run) : Prop := ∀ x ∈ ws, ∀ y ∈ ws, x.1 = y.1
theorem uni_plS {ws : List Run} {k : Str} {n : Nat} (h : Uni ws) : Uni (plS ws k n) := by
  cases ws with
  | nil =>
    intro x hx y hy
    rw [List.mem_singleton.mp (show x ∈ [(k, (n : Int))] from hx), List.mem_singleton.mp (show y ∈ [(k, (n : Int))] from hy)]
  | cons r t =>
    by_cases e : r.1 = k
    · rw [show plS (r :: t) k n = (r :: t) ++ [(k, (n : Int))] from if_pos e]
      have all : ∀ x ∈ (r :: t) ++ [(k, (n : Int))], x.1 = k := by
        intro x hx
        rcases List.mem_append.mp hx with z | z
        · rw [h x z r (List.mem_cons_self ..)]
          exact e
        · rw [List.mem_singleton.mp z]
      intro x hx y hy
      rw [all x hx, all y hy]
    · rw [show plS (r :: t) k n = t from if_neg e]
      exact fun x hx y hy => h x (List.mem_cons_of_mem _ hx) y (List.mem_cons_of_mem _ hy)
theorem told_plS {ws : List Run} {k : Str} {n : Nat} (h : Uni ws) : toldR (plS ws k n) = stepR (toldR ws) k 1 := by
  cases ws with
  | nil => rfl
  | cons r t =>
    by_cases e : r.1 = k
    · rw [show plS (r :: t) k n = (r :: t) ++ [(k, (n : Int))] from if_pos e]
      show some (r.1, (((r :: t) ++ [(k, (n : Int))]).length : Int)) = stepR (some (r.1, ((r :: t).length : Int))) k 1
      rw [step_same (r := (r.1, ((r :: t).length : Int))) e, List.length_append, e]
      show some (k, (((r :: t).length + 1 : Nat) : Int)) = some (k, ((r :: t).length : Int) + 1)
      rw [Int.natCast_add]
      rfl
    · rw [show plS (r :: t) k n = t from if_neg e]
      show toldR t = stepR (some (r.1, ((r :: t).length : Int))) k 1
      rw [step_other (r := (r.1, ((r :: t).length : Int))) e]
      cases t with
      | nil => rfl
      | cons x u =>
        have ex : x.1 = r.1 := h x (List.mem_cons_of_mem _ (List.mem_cons_self ..)) r (List.mem_cons_self ..)
        show some (x.1, ((x :: u).length : Int)) = if 0 < ((r :: x :: u).length : Int) - 1 then some (r.1, ((r :: x :: u).length : Int) - 1) else _
        rw [List.length_cons, List.length_cons, List.length_cons, if_pos (by omega), ex]
        congr 2
        omega
theorem told_plA : ∀ (l : List Str) (ws : List Run) (n : Nat), Uni ws → toldR (plA ws n l) = stI l (toldR ws)
  | [], _, _, _ => rfl
  | k :: t, ws, n, h => by
    show toldR (plA (plS ws k n) (n + 1) t) = stI t (stepR (toldR ws) k 1)
    rw [told_plA t _ _ (uni_plS h), told_plS h]
theorem uni_w0 (st : Option Run) : Uni (w0R st) := by
  cases st with
  | none => intro x hx; cases hx
  | some r =>
    intro x hx y hy
    rw [List.eq_of_mem_replicate hx, List.eq_of_mem_replicate hy]
theorem told_w0 {st : Option Run} (h : PosO st) : toldR (w0R st) = st := by
  cases st with
  | none => rfl
  | some r =>
    have r1 := h r rfl
    obtain ⟨n, hn⟩ : ∃ n : Nat, r.2.toNat = n + 1 := ⟨r.2.toNat - 1, by omega⟩
    show toldR (List.replicate r.2.toNat (r.1, (-1 : Int))) = some r
    rw [hn, List.replicate_succ]
    show some (r.1, (((r.1, (-1 : Int)) :: List.replicate n (r.1, (-1 : Int))).length : Int)) = some r
    rw [List.length_cons, List.length_replicate, show ((n + 1 : Nat) : Int) = r.2 by omega]
/-! ### all counts multiplied -/
def scO (t : Int) (st : Option Run) : Option Run := st.map fun r => (r.1, r.2 * t)
theorem lt_sc {a b t : Int} (ht : 0 < t) : a * t < b * t ↔ a < b :=
  ⟨fun h => by
    by_cases z : a < b
    · exact z
    · have := Int.mul_le_mul_of_nonneg_right (show b ≤ a by omega) (Int.le_of_lt ht)
      omega, fun h => Int.mul_lt_mul_of_pos_right h ht⟩
theorem size_sc {b s e c t : Int} (ht : 0 < t) : sizeR (b * t) (s * t) (e * t) (c * t) = sizeR b s e c * t := by
  unfold sizeR
  rw [← Int.add_mul, Int.sub_mul]
  congr 1
  · by_cases h : b + c < e
    · rw [if_pos h, if_pos ((lt_sc ht).mpr h)]
    · rw [if_neg h, if_neg fun z => h ((lt_sc ht).mp z)]
  · by_cases h : b > s
    · rw [if_pos h, if_pos ((lt_sc ht).mpr h)]
    · rw [if_neg h, if_neg fun z => h ((lt_sc ht).mp z)]
theorem pos_sc {a t : Int} (ht : 0 < t) : 0 < a * t ↔ 0 < a := by
  have := lt_sc (a := 0) (b := a) ht
  rw [Int.zero_mul] at this
  exact this
theorem piece_sc {b s e t : Int} {r : Run} (ht : 0 < t) : pieceR (b * t) (s * t) (e * t) (r.1, r.2 * t) = scR t (pieceR b s e r) := by
  unfold pieceR
  show (if 0 < sizeR (b * t) (s * t) (e * t) (r.2 * t) then [(r.1, sizeR (b * t) (s * t) (e * t) (r.2 * t))] else []) = _
  rw [size_sc ht]
  by_cases h : 0 < sizeR b s e r.2
  · rw [if_pos h, if_pos ((pos_sc ht).mpr h)]
    rfl
  · rw [if_neg h, if_neg fun z => h ((pos_sc ht).mp z)]
    rfl
theorem cut_sc {s e t : Int} (ht : 0 < t) : ∀ (rs : List Run) (b : Int), cutR (s * t) (e * t) (b * t) (scR t rs) = scR t (cutR s e b rs)
  | [], _ => rfl
  | r :: u, b => by
    have ih := cut_sc (s := s) (e := e) ht u (b + r.2)
    show pieceR (b * t) (s * t) (e * t) (r.1, r.2 * t) ++ cutR (s * t) (e * t) (b * t + r.2 * t) (scR t u) = scR t (pieceR b s e r ++ cutR s e (b + r.2) u)
    rw [← Int.add_mul, ih, piece_sc ht]
    unfold scR
    rw [List.map_append]
theorem step_sc {st : Option Run} {k : Str} {c t : Int} (ht : 0 < t) : stepR (scO t st) k (c * t) = scO t (stepR st k c) := by
  cases st with
  | none => rfl
  | some r =>
    show stepR (some (r.1, r.2 * t)) k (c * t) = _
    by_cases e : r.1 = k
    · rw [step_same (r := (r.1, r.2 * t)) e, step_same e]
      show some (k, r.2 * t + c * t) = some (k, (r.2 + c) * t)
      rw [Int.add_mul]
    · rw [step_other (r := (r.1, r.2 * t)) e, step_other e]
      show (if 0 < r.2 * t - c * t then some (r.1, r.2 * t - c * t) else if r.2 * t - c * t = 0 then none else some (k, -(r.2 * t - c * t))) = _
      rw [← Int.sub_mul]
      by_cases h : 0 < r.2 - c
      · rw [if_pos h, if_pos ((pos_sc ht).mpr h)]
        rfl
      · rw [if_neg h, if_neg fun z => h ((pos_sc ht).mp z)]
        by_cases h2 : r.2 - c = 0
        · rw [if_pos h2, h2, Int.zero_mul, if_pos rfl]
          rfl
        · have h3 : (r.2 - c) * t ≠ 0 := Int.mul_ne_zero h2 (by omega)
          rw [if_neg h2, if_neg h3]
          show some (k, -((r.2 - c) * t)) = some (k, -(r.2 - c) * t)
          rw [Int.neg_mul]
theorem st_sc {t : Int} (ht : 0 < t) : ∀ (rs : List Run) (st : Option Run), stR (scR t rs) (scO t st) = scO t (stR rs st)
  | [], _ => rfl
  | r :: u, st => by
    show stR (scR t u) (stepR (scO t st) r.1 (r.2 * t)) = scO t (stR u (stepR st r.1 r.2))
    rw [step_sc ht, st_sc ht u]
theorem len_sc {t : Int} : ∀ (rs : List Run), lenR (scR t rs) = lenR rs * t
  | [] => by
    show (0 : Int) = 0 * t
    rw [Int.zero_mul]
  | r :: u => by
    show lenR ((r.1, r.2 * t) :: scR t u) = _
    rw [lenR_cons, lenR_cons, len_sc u, Int.add_mul]
/-- the multiplied state at a multiplied moment -/
theorem whole_sc {t : Int} {rs : List Run} {st : Option Run} {p : Nat} (ht : 0 < t) (h : PosO st) (k : ∀ r ∈ rs, 1 ≤ r.2) :
    stR (cutR 0 ((p : Int) * t) 0 (scR t rs)) (scO t st) = scO t (toldR (plA (w0R st) 0 ((itR rs).take p))) := by
  have e := cut_sc (s := 0) (e := (p : Int)) ht rs 0
  rw [Int.zero_mul] at e
  rw [e, st_sc ht, told_plA _ _ _ (uni_w0 st), told_w0 h, st_items _ _ h cutR_pos, cut_items _ _ _ (Int.le_refl _) k, Int.sub_zero, Int.toNat_natCast]
end UP

set_option Elab.async false
set_option linter.all false
set_option maxRecDepth 100000
set_option maxHeartbeats 4000000
namespace UP
open PySem PySem.Spec PyProof.Rows L2
theorem room70 {A : Around} {k : Nat} (hr : Room k A) : A.units + 70 < cLine := by
  have := hr.un
  omega
theorem call_list_ofK {X : Cx} {K : PySem.W.Frag} (h : X.K = K) : CallR X (.type "list") (fun xs H Q => ∃ p ys, xs = [.ref p] ∧ (SqL K H p ys ∨ SqT K H p ys) ∧ ∀ l, H l = none → Q (.ref l) (upd H l (.lst ys))) := by
  subst h
  exact call_list_of
/-! ### data that a repr takes -/
structure Nice (w n : Nat) (d : PyData) : Prop where
  can : d.canLay0 = true
  dep : d.depth ≤ n
  sho : d.showable = true
  lea : d.leavesShort 100 = true
  wei : d.weight ≤ w
theorem Nice.mono {w w' n n' : Nat} {d : PyData} (h : Nice w n d) (h1 : w ≤ w') (h2 : n ≤ n') : Nice w' n' d := ⟨h.can, Nat.le_trans h.dep h2, h.sho, h.lea, Nat.le_trans h.wei h1⟩
theorem Nice.fits {w n : Nat} {d : PyData} (h : Nice w n d) (hw : w ≤ 150000) (hn : n ≤ 64) : d.showable = true ∧ SeqAt.shaped d = true ∧ d.shown.length ≤ sizeLine := by
  refine ⟨h.sho, ?_, ?_⟩
  · unfold SeqAt.shaped
    rw [h.can]
    have := h.dep
    exact decide_eq_true (by omega)
  · have h1 := PyData.shown_le 100 (by decide) d h.lea
    have h2 := h.wei
    have h3 : d.shown.length ≤ 16000000 := by omega
    exact Nat.le_trans h3 (by decide)
theorem nice_none : Nice 0 0 .none := ⟨rfl, Nat.le_refl _, rfl, rfl, Nat.le_refl _⟩
theorem nice_str {s : Str} (h : KindOk s) : Nice 8 0 (.str s) := by
  refine ⟨?_, Nat.le_refl _, rfl, ?_, h.2.1⟩
  · rw [PyData.canLay0]
    exact h.str
  · rw [PyData.leavesShort, List.all_eq_true]
    intro c hc
    have := h.2.2 c hc
    exact decide_eq_true (by omega)
theorem nice_int {i : Int} (h : i.natAbs < 10 ^ 60) : Nice 201 0 (.int i) := by
  have h2 : i.natAbs < 2 ^ 200 := Nat.lt_of_lt_of_le h (by decide)
  have h3 : i.natAbs.log2 < 200 := by
    by_cases z : i.natAbs = 0
    · rw [z]
      decide
    · exact (Nat.log2_lt z).mpr h2
  refine ⟨by rw [PyData.canLay0], Nat.le_refl _, ?_, ?_, ?_⟩
  · rw [PyData.showable]
    exact decide_eq_true (by omega)
  · rw [PyData.leavesShort]
    refine decide_eq_true ?_
    have e := int_text_length_le10 (k := 60) (by decide) h
    show (Str.ofString (toString i)).length ≤ 100
    rw [PySem.ofString_length]
    omega
  · rw [PyData.weight]
    split <;> omega
theorem nice_items {w n : Nat} : ∀ {ds : List PyData}, (∀ d ∈ ds, Nice w n d) → PyData.canLayAll0 ds = true ∧ PyData.depthAll ds ≤ n ∧ PyData.showableAll ds = true ∧ PyData.leavesShortAll 100 ds = true ∧ PyData.weightAll ds ≤ (w + 1) * ds.length
  | [], _ => ⟨rfl, Nat.zero_le _, rfl, rfl, Nat.zero_le _⟩
  | d :: t, h => by
    have h1 := h d (List.mem_cons_self ..)
    obtain ⟨a, b, c, e, f⟩ := nice_items (ds := t) fun x hx => h x (List.mem_cons_of_mem _ hx)
    refine ⟨?_, ?_, ?_, ?_, ?_⟩
    · rw [PyData.canLayAll0, h1.can, a]
      rfl
    · rw [PyData.depthAll]
      exact Nat.max_le.mpr ⟨h1.dep, b⟩
    · rw [PyData.showableAll, h1.sho, c]
      rfl
    · rw [PyData.leavesShortAll, h1.lea, e]
      rfl
    · have h2 := h1.wei
      rw [PyData.weightAll, List.length_cons, Nat.mul_succ]
      omega
theorem nice_list {w n : Nat} {ds : List PyData} (h : ∀ d ∈ ds, Nice w n d) : Nice ((w + 1) * ds.length) (n + 1) (.list ds) := by
  obtain ⟨a, b, c, e, f⟩ := nice_items h
  exact ⟨by rw [PyData.canLay0]; exact a, by rw [PyData.depth]; omega, by rw [PyData.showable]; exact c, by rw [PyData.leavesShort]; exact e, by rw [PyData.weight]; exact f⟩
theorem nice_tup {w n : Nat} {ds : List PyData} (h : ∀ d ∈ ds, Nice w n d) : Nice ((w + 1) * ds.length) (n + 1) (.tuple ds) := by
  obtain ⟨a, b, c, e, f⟩ := nice_items h
  exact ⟨by rw [PyData.canLay0]; exact a, by rw [PyData.depth]; omega, by rw [PyData.showable]; exact c, by rw [PyData.leavesShort]; exact e, by rw [PyData.weight]; exact f⟩
/-- v stands for d at H and at every heap that keeps H -/
def DpS (K : PySem.W.Frag) (H : Hp) (v : V) (d : PyData) : Prop := ∀ H', Same H H' → Dp K H' v d
theorem DpS.same {K : PySem.W.Frag} {H H' : Hp} {v : V} {d : PyData} (s : Same H H') (h : DpS K H v d) : DpS K H' v d := fun H2 s2 => h H2 (s.trans s2)
theorem dps_all {K : PySem.W.Frag} {H : Hp} {F : PyData → Prop} : ∀ {xs : List V}, (∀ x ∈ xs, ∃ d, DpS K H x d ∧ F d) → ∃ ds, (∀ H', Same H H' → DpAll K H' xs ds) ∧ ds.length = xs.length ∧ ∀ d ∈ ds, F d
  | [], _ => ⟨[], fun _ _ => .nil, rfl, fun d h => by cases h⟩
  | x :: t, h => by
    obtain ⟨d, h1, h2⟩ := h x (List.mem_cons_self ..)
    obtain ⟨ds, a, b, c⟩ := dps_all (xs := t) fun y hy => h y (List.mem_cons_of_mem _ hy)
    refine ⟨d :: ds, fun H' s => .cons (h1 H' s) (a H' s), congrArg Nat.succ b, fun z hz => ?_⟩
    rcases List.mem_cons.mp hz with e | e
    · rw [e]
      exact h2
    · exact c z e
theorem dps_seq {K : PySem.W.Frag} {H : Hp} {a : Addr} {xs : List V} {w n : Nat} (hx : Sq2 H a xs) (h : ∀ x ∈ xs, ∃ d, DpS K H x d ∧ Nice w n d) : ∃ d, DpS K H (.ref a) d ∧ Nice ((w + 1) * xs.length) (n + 1) d := by
  obtain ⟨ds, h1, h2, h3⟩ := dps_all h
  rcases hx with z | z
  · exact ⟨.list ds, fun H' s => .lst (.of (s _ _ z)) (h1 H' s), by rw [← h2]; exact nice_list h3⟩
  · exact ⟨.tuple ds, fun H' s => .tup (.of (s _ _ z)) (h1 H' s), by rw [← h2]; exact nice_tup h3⟩
theorem dps_run {K : PySem.W.Frag} {H : Hp} {v : V} {r : Run} (h : RunG H v r) (k : KindOk r.1) (c : r.2.natAbs < 10 ^ 60) : ∃ d, DpS K H v d ∧ Nice 404 1 d := by
  obtain ⟨t, rfl, h⟩ := h
  have := dps_seq (K := K) (w := 201) (n := 0) h fun x hx => by
    rcases List.mem_cons.mp hx with e | e
    · rw [e]
      exact ⟨.str r.1, fun _ _ => .str _, (nice_str k).mono (by decide) (Nat.le_refl _)⟩
    · rw [List.mem_singleton.mp e]
      exact ⟨.int r.2, fun _ _ => .int _, nice_int c⟩
  exact this
theorem dps_runs {K : PySem.W.Frag} {H : Hp} {v : V} {rs : List Run} (h : RunsG H v rs) (k : ∀ r ∈ rs, KindOk r.1 ∧ r.2.natAbs < 10 ^ 60) (l : rs.length ≤ 100) : ∃ d, DpS K H v d ∧ Nice 41000 2 d := by
  obtain ⟨a, xs, rfl, hx, hp⟩ := h
  have lx : xs.length = rs.length := Paired.len hp
  obtain ⟨d, h1, h2⟩ := dps_seq (K := K) (w := 404) (n := 1) hx fun x hx => by
    obtain ⟨i, hi, e⟩ := List.mem_iff_getElem.mp hx
    obtain ⟨r, er, hr⟩ := Paired.at hp (List.getElem?_eq_getElem hi)
    rw [e] at hr
    have := k r (List.mem_of_getElem? er)
    exact dps_run hr this.1 this.2
  exact ⟨d, h1, h2.mono (by rw [lx]; omega) (Nat.le_refl _)⟩
theorem dps_st {K : PySem.W.Frag} {H : Hp} {v : V} {st : Option Run} (h : StG H v st) (k : ∀ r, st = some r → KindOk r.1 ∧ r.2.natAbs < 10 ^ 60) : ∃ d, DpS K H v d ∧ Nice 41000 2 d := by
  cases st with
  | none =>
    cases h
    exact ⟨.none, fun _ _ => .non, nice_none.mono (by decide) (by decide)⟩
  | some r =>
    obtain ⟨d, h1, h2⟩ := dps_run (K := K) h (k r rfl).1 (k r rfl).2
    exact ⟨d, h1, h2.mono (by decide) (by decide)⟩
theorem dps_two {K : PySem.W.Frag} {H : Hp} {a : Addr} {x y : V} (h : H a = some (.lst [x, y])) (hx : ∃ d, DpS K H x d ∧ Nice 41000 2 d) (hy : ∃ d, DpS K H y d ∧ Nice 41000 2 d) : ∃ d, DpS K H (.ref a) d ∧ Nice 82002 3 d := by
  have := dps_seq (K := K) (a := a) (xs := [x, y]) (w := 41000) (n := 2) (.inl h) fun z hz => by
    rcases List.mem_cons.mp hz with e | e
    · rw [e]
      exact hx
    · rw [List.mem_singleton.mp e]
      exact hy
  exact this
/-! ### dressed and undressed -/
def dP (r : Run) : PyData := .list [.str r.1, .int r.2]
def dSq (rs : List Run) : PyData := .list (rs.map dP)
def dSt : Option Run → PyData
  | none => .none
  | some r => dP r
theorem sim_pair {N : Addr → Prop} {H : Hp} {n : Nat} (r : Run) : Paired (Sim N H n) [V.str r.1, V.int r.2] [PyData.str r.1, PyData.int r.2] := .cons (Sim.dsc (.inr (.inr (.inr ⟨_, rfl, rfl⟩)))) (.cons (Sim.dsc (.inr (.inr (.inl ⟨_, rfl, rfl⟩)))) .nil)
theorem sim_run {H : Hp} {sp : Addr} {v : V} {r : Run} {n : Nat} (z : Spr H sp) (h : RunV H v r) : Sim (· ≠ sp) H (n + 1) v (dP r) := by
  obtain ⟨t, rfl, h⟩ := h
  obtain ⟨_, _, _, hs, _⟩ := z
  exact .inr ⟨t, _, _, rfl, ne_of h hs (by intro q; cases q), .inr h, rfl, sim_pair r, Nat.le_of_ble_eq_true rfl⟩
theorem sim_seq {H : Hp} {sp a : Addr} {rs : List Run} (z : Spr H sp) (h : Runs H a rs) (l : rs.length ≤ 1000) : Sim (· ≠ sp) H 2 (.ref a) (dSq rs) := by
  have na := Runs.ne z h
  obtain ⟨xs, hx, hp⟩ := h
  refine .inr ⟨a, xs, _, rfl, na, .inl hx, rfl, ?_, by rw [List.length_map]; exact l⟩
  have gen : ∀ {xs : List V} {rs : List Run}, Paired (RunV H) xs rs → Paired (Sim (· ≠ sp) H 1) xs (rs.map dP) := by
    intro xs rs h
    induction h with
    | nil => exact .nil
    | cons h _ ih => exact .cons (sim_run z h) ih
  exact gen hp
theorem sim_st {H : Hp} {sp : Addr} {v : V} {st : Option Run} (z : Spr H sp) (h : StV H v st) : Sim (· ≠ sp) H 2 v (dSt st) := by
  cases st with
  | none =>
    cases h
    exact .inl (.inl ⟨rfl, rfl⟩)
  | some r => exact sim_run z h
theorem sim_one {N : Addr → Prop} {H : Hp} {n : Nat} {v : V} {r : Run} (h : Sim N H (n + 1) v (dP r)) : RunG H v r := by
  rcases h with h | ⟨a, xs, ds, rfl, _, hx, e, p, _⟩
  · exact (dsc_lst h).elim
  · cases e
    have scal : ∀ {m : Nat} {x : V} {s : Str}, Sim N H m x (.str s) → x = .str s := by
      intro m x s h
      have h : Dsc x (.str s) := by
        cases m with
        | zero => exact h
        | succ m =>
          rcases h with h | ⟨_, _, _, _, _, _, e, _⟩
          · exact h
          · cases e
      rcases h with ⟨_, e⟩ | ⟨_, _, e⟩ | ⟨_, _, e⟩ | ⟨y, e1, e⟩ <;> cases e
      exact e1
    have scai : ∀ {m : Nat} {x : V} {s : Int}, Sim N H m x (.int s) → x = .int s := by
      intro m x s h
      have h : Dsc x (.int s) := by
        cases m with
        | zero => exact h
        | succ m =>
          rcases h with h | ⟨_, _, _, _, _, _, e, _⟩
          · exact h
          · cases e
      rcases h with ⟨_, e⟩ | ⟨_, _, e⟩ | ⟨y, e1, e⟩ | ⟨_, _, e⟩ <;> cases e
      exact e1
    cases p with
    | cons h1 p1 =>
      cases p1 with
      | cons h2 p2 =>
        cases p2
        rw [scal h1, scai h2] at hx
        exact ⟨a, rfl, hx⟩
theorem sim_all {N : Addr → Prop} {H : Hp} : ∀ (rs : List Run) (xs : List V), Paired (Sim N H 1) xs (rs.map dP) → Paired (RunG H) xs rs
  | [], xs, h => by
    cases h
    exact .nil
  | r :: t, xs, h => by
    cases h with
    | cons h1 h2 => exact .cons (sim_one h1) (sim_all t _ h2)
theorem sim_runs {N : Addr → Prop} {H : Hp} {v : V} {rs : List Run} (h : Sim N H 2 v (dSq rs)) : RunsG H v rs := by
  rcases h with h | ⟨a, xs, ds, rfl, _, hx, e, p, _⟩
  · exact (dsc_lst h).elim
  · cases e
    refine ⟨a, xs, rfl, hx, ?_⟩
    exact sim_all rs xs p
theorem sim_stg {N : Addr → Prop} {H : Hp} {v : V} {st : Option Run} (h : Sim N H 2 v (dSt st)) : StG H v st := by
  cases st with
  | none =>
    rcases h with h | ⟨_, _, _, _, _, _, e, _⟩
    · rcases h with ⟨e, _⟩ | ⟨_, _, e⟩ | ⟨_, _, e⟩ | ⟨_, _, e⟩
      · exact e
      all_goals cases e
    · cases e
  | some r => exact sim_one h
/-! ### one by one -/
theorem at_moment {rs : List Run} {st : Option Run} {m : Nat} (h : PosO st) (k : ∀ r ∈ rs, 1 ≤ r.2) : stR (cutR 0 (m : Int) 0 rs) st = toldR (plA (w0R st) 0 ((itR rs).take m)) := by
  rw [told_plA _ _ _ (uni_w0 st), told_w0 h, st_items _ _ h cutR_pos, cut_items _ _ _ (Int.le_refl _) k, Int.sub_zero, Int.toNat_natCast]
theorem at_end {rs : List Run} {st : Option Run} (h : PosO st) (k : ∀ r ∈ rs, 1 ≤ r.2) : stR rs st = toldR (plA (w0R st) 0 (itR rs)) := by
  rw [told_plA _ _ _ (uni_w0 st), told_w0 h, st_items _ _ h k]
theorem plMs_get (ws : List Run) (ks : List Str) {n : Nat} (h : n ≤ ks.length) : (plMs ws ks)[n]? = some (plA ws 0 (ks.take n)) := by
  unfold plMs
  rw [List.getElem?_map, List.getElem?_range (by omega)]
  rfl
def dO : Option Run → PyData
  | none => .none
  | some r => dRun r
theorem dt_st {H : Hp} {v : V} {st : Option Run} {n : Nat} (h : StV H v st) : Dt H (n + 1) v (dO st) := by
  cases st with
  | none =>
    cases h
    exact .inl (.inl ⟨rfl, rfl⟩)
  | some r =>
    obtain ⟨t, rfl, h⟩ := h
    refine .inr (.inr ⟨t, _, _, rfl, h, rfl, .cons ?_ (.cons ?_ .nil), Nat.le_of_ble_eq_true rfl⟩)
    · cases n with
      | zero => exact .inr (.inr (.inr ⟨_, rfl, rfl⟩))
      | succ m => exact .inl (.inr (.inr (.inr ⟨_, rfl, rfl⟩)))
    · cases n with
      | zero => exact .inr (.inr (.inl ⟨_, rfl, rfl⟩))
      | succ m => exact .inl (.inr (.inr (.inl ⟨_, rfl, rfl⟩)))
theorem w0_len {st : Option Run} (h : ∀ r, st = some r → r.2 ≤ 1000) : (w0R st).length ≤ 1000 := by
  cases st with
  | none => exact Nat.zero_le _
  | some r =>
    have := h r rfl
    show (List.replicate r.2.toNat (r.1, (-1 : Int))).length ≤ 1000
    rw [List.length_replicate]
    omega
theorem w0_kinds {st : Option Run} (h : StOk st) : ∀ r ∈ w0R st, KindOk r.1 := by
  cases st with
  | none => intro r h; cases h
  | some x =>
    intro r hr
    rw [List.eq_of_mem_replicate hr]
    exact (h x rfl).1
theorem it_kinds {rs : List Run} (h : ∀ r ∈ rs, KindOk r.1) : ∀ k ∈ itR rs, KindOk k := by
  intro k hk
  obtain ⟨r, h1, h2⟩ := List.mem_flatMap.mp hk
  rw [List.eq_of_mem_replicate h2]
  exact h r h1
end UP

set_option Elab.async false
set_option linter.all false
set_option maxRecDepth 100000
set_option maxHeartbeats 4000000
namespace UP
open PySem PySem.Spec PyProof.Rows L2
/-! ### values of any form that a menu holds -/
inductive Dat where
  | non
  | bl (b : Bool)
  | int (n : Int)
  | str (z : Str)
  | dic
  | lst (l : List Dat)
  | tup (l : List Dat)
inductive Rp (H : Hp) : V → Dat → Prop where
  | non : Rp H .non .non
  | bl (b : Bool) : Rp H (.bl b) (.bl b)
  | int (n : Int) : Rp H (.int n) (.int n)
  | str (z : Str) : Rp H (.str z) (.str z)
  | dic {a : Addr} (e : H a = some (.dK [])) : Rp H (.ref a) .dic
  | lst {a : Addr} {xs : List V} {l : List Dat} (e : H a = some (.lst xs)) (h : Paired (Rp H) xs l) : Rp H (.ref a) (.lst l)
  | tup {a : Addr} {xs : List V} {l : List Dat} (e : H a = some (.tup xs)) (h : Paired (Rp H) xs l) : Rp H (.ref a) (.tup l)
theorem Rp.same {H H' : Hp} (s : Same H H') {v : V} {d : Dat} (h : Rp H v d) : Rp H' v d := by
  refine Rp.rec (motive_1 := fun v d _ => Rp H' v d) (motive_2 := fun xs l _ => Paired (Rp H') xs l) .non .bl .int .str ?_ ?_ ?_ .nil ?_ h
  · intro a e
    exact .dic (s _ _ e)
  · intro a xs l e _ ih
    exact .lst (s _ _ e) ih
  · intro a xs l e _ ih
    exact .tup (s _ _ e) ih
  · intro x y xs ys _ _ h1 h2
    exact .cons h1 h2
def Dat.isI : Dat → Bool
  | .int _ => true
  | _ => false
def Dat.inI (lo hi : Int) : Dat → Bool
  | .int n => decide (lo ≤ n ∧ n ≤ hi)
  | _ => false
/-- its parts, if it is a list or a tuple -/
def Dat.parts : Dat → Option (List Dat)
  | .lst l => some l
  | .tup l => some l
  | _ => none
def Dat.listed (d : Dat) (m : Int) : Bool := match d.parts with
  | some l => decide ((l.length : Int) ≤ m)
  | none => false
def Dat.couple (d : Dat) : Bool := match d.parts with
  | some l => decide (l.length = 2)
  | none => false
/-- the name of its type -/
def Dat.ty : Dat → String
  | .non => "NoneType"
  | .bl _ => "bool"
  | .int _ => "int"
  | .str _ => "str"
  | .dic => "dict"
  | .lst _ => "list"
  | .tup _ => "tuple"
theorem Rp.tyx {K : PySem.W.Frag} {H : Hp} {v : V} {d : Dat} (h : Rp H v d) : TyX K H v (.type d.ty) := by
  cases h with
  | non => exact .base .non
  | bl b => exact .base (.bl b)
  | int n => exact .base (.int n)
  | str z => exact .base (.str z)
  | dic e => exact .base (.dK e)
  | lst e _ => exact .base (.lst e)
  | tup e _ => exact .base (.tup e)
theorem Rp.noSeq {K : PySem.W.Frag} {H : Hp} {v : V} {d : Dat} (h : Rp H v d) (hd : d.parts = none) : ∃ t, TyX K H v t ∧ PySem.W.kitAny K t [.type "list", .type "tuple"] = some false := by
  cases h with
  | non => exact ⟨_, .base .non, kit_no (by decide +kernel) (by decide +kernel)⟩
  | bl b => exact ⟨_, .base (.bl b), kit_no (by decide +kernel) (by decide +kernel)⟩
  | int n => exact ⟨_, .base (.int n), kit_no (by decide +kernel) (by decide +kernel)⟩
  | str z => exact ⟨_, .base (.str z), kit_no (by decide +kernel) (by decide +kernel)⟩
  | dic e => exact ⟨_, .base (.dK e), kit_no (by decide +kernel) (by decide +kernel)⟩
  | lst e _ => cases hd
  | tup e _ => cases hd
theorem Rp.seq {H : Hp} {v : V} {d : Dat} (h : Rp H v d) {l : List Dat} (hd : d.parts = some l) : ∃ a xs, v = .ref a ∧ Sq2 H a xs ∧ Paired (Rp H) xs l := by
  cases h with
  | non => cases hd
  | bl b => cases hd
  | int n => cases hd
  | str z => cases hd
  | dic e => cases hd
  | lst e h => cases hd; exact ⟨_, _, rfl, .inl e, h⟩
  | tup e h => cases hd; exact ⟨_, _, rfl, .inr e, h⟩
theorem giP {b : Bool} {A B : Prop} (h : b = true) (x : A) : if b = true then A else B := by
  rw [if_pos h]
  exact x
theorem giN {b : Bool} {A B : Prop} (h : b = false) (x : B) : if b = true then A else B := by
  rw [if_neg (by rw [h]; decide)]
  exact x
section
variable {P : Program} {w : World} {K : PySem.W.Frag} {mg : Str → Option Value} {base : Heap}
def spD_is_whole : Sp := fun vs H Q _ => ∃ (v : V) (d : Dat), vs = [v] ∧ Rp H v d ∧ Q (.bl d.isI) H
theorem okD_is_whole (D : Df K mg "is_whole" s_is_whole) (T : Tx mg) : Has P w K mg base 1 "is_whole" ["value"] spD_is_whole := by
  refine has_of D sc_is_whole (fun _ _ _ _ _ _ us hl => match us, hl with | [_], _ => rfl) (fun vs H Q E h => ?_) (fun f cdv A outer s H vs Q E hr h => ?_)
  · obtain ⟨v, d, rfl, _⟩ := h
    rfl
  · obtain ⟨v, d, rfl, hv, q⟩ := h
    refine ⟨_, (pss_one (ps_ret (pe_and (pe_callB call_isi (by rfl) T.n_isinstance (by decide +kernel) (pa_cons (pv 0) (pa_cons (pe_bltn (v := .ty "int") (by rfl) T.n_int (by decide +kernel) rfl) pa_nil))) (pe_one (pe_not (pe_callB call_isi (by rfl) T.n_isinstance (by decide +kernel) (pa_cons (pv 0) (pa_cons (pe_bltn (v := .ty "bool") (by rfl) T.n_bool (by decide +kernel) rfl) pa_nil)))))))), ?_⟩
    cases hv with
    | int n => exact ⟨_, rfl, _, _, _, _, true, rfl, .ty "int", .base (.int n), kit_ty (by decide +kernel), true, rfl, iteT ⟨_, rfl, _, _, _, _, false, rfl, .ty "bool", .base (.int n), kit_ty (by decide +kernel), false, rfl, q⟩⟩
    | bl b => exact ⟨_, rfl, _, _, _, _, true, rfl, .ty "int", .base (.bl b), kit_ty (by decide +kernel), true, rfl, iteT ⟨_, rfl, _, _, _, _, true, rfl, .ty "bool", .base (.bl b), kit_ty (by decide +kernel), true, rfl, q⟩⟩
    | non => exact ⟨_, rfl, _, _, _, _, false, rfl, .ty "int", .base .non, kit_ty (by decide +kernel), false, rfl, iteF q⟩
    | str z => exact ⟨_, rfl, _, _, _, _, false, rfl, .ty "int", .base (.str z), kit_ty (by decide +kernel), false, rfl, iteF q⟩
    | dic e => exact ⟨_, rfl, _, _, _, _, false, rfl, .ty "int", .base (.dK e), kit_ty (by decide +kernel), false, rfl, iteF q⟩
    | lst e h => exact ⟨_, rfl, _, _, _, _, false, rfl, .ty "int", .base (.lst e), kit_ty (by decide +kernel), false, rfl, iteF q⟩
    | tup e h => exact ⟨_, rfl, _, _, _, _, false, rfl, .ty "int", .base (.tup e), kit_ty (by decide +kernel), false, rfl, iteF q⟩
def spD_is_listed : Sp := fun vs H Q _ => ∃ (v : V) (d : Dat) (m : Int), vs = [v, .int m] ∧ Rp H v d ∧ ∀ H', Same H H' → Q (.bl (d.listed m)) H'
theorem okD_is_listed (D : Df K mg "is_listed" s_is_listed) (T : Tx mg) : Has P w K mg base 1 "is_listed" ["value", "most"] spD_is_listed := by
  refine has_of D sc_is_listed (fun _ _ _ _ _ _ us hl => match us, hl with | [_, _], _ => rfl) (fun vs H Q E h => ?_) (fun f cdv A outer s H vs Q E hr h => ?_)
  · obtain ⟨v, d, m, rfl, _⟩ := h
    rfl
  · obtain ⟨v, d, m, rfl, hv, q⟩ := h
    refine ⟨_, (pss_one (ps_ret (pe_and (pe_callB call_isiT (by rfl) T.n_isinstance (by decide +kernel) (pa_cons (pv 0) (pa_cons (pe_tup (pa_cons (pe_bltn (v := .ty "list") (by rfl) T.n_list (by decide +kernel) rfl) (pa_cons (pe_bltn (v := .ty "tuple") (by rfl) T.n_tuple (by decide +kernel) rfl) pa_nil))) pa_nil))) (pe_one (pe_cmpR op_le (pe_callB call_len_seq (by rfl) T.n_len (by decide +kernel) (pa_cons (pv 0) pa_nil)) (pv 1) (nomark _)))))), ?_⟩
    refine ⟨_, rfl, (by show 2 ≤ sizeLine; decide), fun t nt => ?_⟩
    have q := q _ (same_upd (o := .tup [.ty "list", .ty "tuple"]) nt)
    have hv := hv.same (same_upd (o := .tup [.ty "list", .ty "tuple"]) nt)
    cases hd : d.parts with
    | none =>
      obtain ⟨tv, h1, h2⟩ := hv.noSeq (K := K) hd
      refine ⟨_, t, _, _, _, false, rfl, upd_same, .cons (.ty "list") (.cons (.ty "tuple") .nil), h1, h2, false, rfl, iteF ?_⟩
      rw [show d.listed m = false by unfold Dat.listed; rw [hd]] at q
      exact q
    | some l =>
      obtain ⟨a, xs, rfl, hx, hp⟩ := hv.seq hd
      have ll : xs.length = l.length := Paired.len hp
      rw [show d.listed m = decide ((xs.length : Int) ≤ m) by unfold Dat.listed; rw [hd, ll]] at q
      rcases hx with hx | hx
      · refine ⟨_, t, _, _, _, true, rfl, upd_same, .cons (.ty "list") (.cons (.ty "tuple") .nil), .base (.lst hx), kit_lst, true, rfl, iteT ?_⟩
        exact ⟨_, rfl, _, _, rfl, .inl (.of hx), _, rfl, _, _, rfl, rfl, q⟩
      · refine ⟨_, t, _, _, _, true, rfl, upd_same, .cons (.ty "list") (.cons (.ty "tuple") .nil), .base (.tup hx), kit_tup, true, rfl, iteT ?_⟩
        exact ⟨_, rfl, _, _, rfl, .inr (.of hx), _, rfl, _, _, rfl, rfl, q⟩
def spD_is_couple : Sp := fun vs H Q _ => ∃ (v : V) (d : Dat), vs = [v] ∧ Rp H v d ∧ ∀ H', Same H H' → Q (.bl d.couple) H'
theorem okD_is_couple (D : Df K mg "is_couple" s_is_couple) (T : Tx mg) : Has P w K mg base 1 "is_couple" ["value"] spD_is_couple := by
  refine has_of D sc_is_couple (fun _ _ _ _ _ _ us hl => match us, hl with | [_], _ => rfl) (fun vs H Q E h => ?_) (fun f cdv A outer s H vs Q E hr h => ?_)
  · obtain ⟨v, d, rfl, _⟩ := h
    rfl
  · obtain ⟨v, d, rfl, hv, q⟩ := h
    refine ⟨_, (pss_one (ps_ret (pe_and (pe_callB call_isiT (by rfl) T.n_isinstance (by decide +kernel) (pa_cons (pv 0) (pa_cons (pe_tup (pa_cons (pe_bltn (v := .ty "list") (by rfl) T.n_list (by decide +kernel) rfl) (pa_cons (pe_bltn (v := .ty "tuple") (by rfl) T.n_tuple (by decide +kernel) rfl) pa_nil))) pa_nil))) (pe_one (pe_cmpR op_eq (pe_callB call_len_seq (by rfl) T.n_len (by decide +kernel) (pa_cons (pv 0) pa_nil)) pe_int (nomark _)))))), ?_⟩
    refine ⟨_, rfl, (by show 2 ≤ sizeLine; decide), fun t nt => ?_⟩
    have q := q _ (same_upd (o := .tup [.ty "list", .ty "tuple"]) nt)
    have hv := hv.same (same_upd (o := .tup [.ty "list", .ty "tuple"]) nt)
    cases hd : d.parts with
    | none =>
      obtain ⟨tv, h1, h2⟩ := hv.noSeq (K := K) hd
      refine ⟨_, t, _, _, _, false, rfl, upd_same, .cons (.ty "list") (.cons (.ty "tuple") .nil), h1, h2, false, rfl, iteF ?_⟩
      rw [show d.couple = false by unfold Dat.couple; rw [hd]] at q
      exact q
    | some l =>
      obtain ⟨a, xs, rfl, hx, hp⟩ := hv.seq hd
      have ll : xs.length = l.length := Paired.len hp
      have eb : decide (V.int (xs.length : Int) = V.int 2) = d.couple := by
        unfold Dat.couple
        rw [hd]
        show _ = decide (l.length = 2)
        rw [← ll]
        exact decide_eq_decide.mpr ⟨fun z => by have := V.int.inj z; omega, fun z => by rw [z]; rfl⟩
      rw [← eb] at q
      rcases hx with hx | hx
      · exact ⟨_, t, _, _, _, true, rfl, upd_same, .cons (.ty "list") (.cons (.ty "tuple") .nil), .base (.lst hx), kit_lst, true, rfl, iteT ⟨_, rfl, _, _, rfl, .inl (.of hx), rfl, q⟩⟩
      · exact ⟨_, t, _, _, _, true, rfl, upd_same, .cons (.ty "list") (.cons (.ty "tuple") .nil), .base (.tup hx), kit_tup, true, rfl, iteT ⟨_, rfl, _, _, rfl, .inr (.of hx), rfl, q⟩⟩
end
end UP

set_option Elab.async false
set_option linter.all false
set_option maxRecDepth 100000
set_option maxHeartbeats 4000000
set_option pp.maxSteps 600
namespace UP
open PySem PySem.Spec PyProof.Rows L2
section
variable {P : Program} {w : World} {K : PySem.W.Frag} {mg : Str → Option Value} {base : Heap}
def spD_is_within : Sp := fun vs H Q _ => ∃ (v : V) (d : Dat) (lo hi : Int), vs = [v, .int lo, .int hi] ∧ Rp H v d ∧ Q (.bl (d.inI lo hi)) H
theorem okD_is_within (D : Df K mg "is_within" s_is_within) (G_is_whole : Has P w K mg base 1 "is_whole" ["value"] spD_is_whole) : Has P w K mg base 2 "is_within" ["value", "low", "high"] spD_is_within := by
  refine has_of D sc_is_within (fun _ _ _ _ _ _ us hl => match us, hl with | [_, _, _], _ => rfl) (fun vs H Q E h => ?_) (fun f cdv A outer s H vs Q E hr h => ?_)
  · obtain ⟨v, d, lo, hi, rfl, _⟩ := h
    rfl
  · obtain ⟨v, d, lo, hi, rfl, hv, q⟩ := h
    refine ⟨_, (pss_one (ps_ret (pe_and (pe_callH G_is_whole (hr.mono (by omega)) (by rfl) (pa_cons (pv 0) pa_nil)) (pe_one (pe_chain op_le op_le (pv 1) (pv 0) (pv 2)))))), ?_⟩
    refine ⟨_, rfl, v, d, rfl, hv, d.isI, rfl, ?_⟩
    by_cases ci : d.isI = true
    · refine giP ci ?_
      cases hv with
      | int n =>
        refine ⟨_, rfl, _, rfl, _, _, rfl, rfl, _, rfl, ite2 (fun e => ?_) (fun e => ?_)⟩
        · have e := of_decide_eq_true e
          refine ⟨_, rfl, _, _, rfl, rfl, ?_⟩
          show Q (.bl (decide (n ≤ hi))) H
          rw [show decide (n ≤ hi) = (Dat.int n).inI lo hi by show _ = decide (lo ≤ n ∧ n ≤ hi); simp [e]]
          exact q
        · have e : ¬ lo ≤ n := fun z => e (decide_eq_true z)
          show Q (.bl false) H
          rw [show false = (Dat.int n).inI lo hi by show _ = decide (lo ≤ n ∧ n ≤ hi); simp [e]]
          exact q
      | _ => cases ci
    · refine giN (by simpa using ci) ?_
      have e : d.inI lo hi = false := by
        cases d with
        | int n => exact absurd rfl ci
        | _ => rfl
      rw [e] at q
      exact q
/-! ### what the functions say of such a value -/
def kindB (z : Str) : Bool := decide (1 ≤ (z.length : Int) ∧ (z.length : Int) ≤ 8) && z.cps.toList.all fun c => decide (97 ≤ c ∧ c ≤ 122)
def Dat.kind : Dat → Bool
  | .str z => kindB z
  | _ => false
/-- its text, if it is one, is not too long -/
def Dat.fit : Dat → Prop
  | .str z => z.length ≤ 4000
  | _ => True
def Dat.two (d : Dat) : Option (Dat × Dat) := match d.parts with
  | some [x, y] => some (x, y)
  | _ => none
def Dat.run (d : Dat) : Bool := match d.two with
  | some (x, y) => x.kind && y.inI 1 1000000000000000000000000000000
  | none => false
def Dat.pos : Dat → Bool
  | .int n => decide (1 ≤ n)
  | _ => false
def Dat.state (d : Dat) : Bool := match d with
  | .non => true
  | d => match d.two with
    | some (x, y) => x.kind && y.pos
    | none => false
def Dat.fit2 (d : Dat) : Prop := ∀ x y, d.two = some (x, y) → x.fit
theorem kitS {K : PySem.W.Frag} {H : Hp} {v : V} {d : Dat} (h : Rp H v d) (hn : ∀ z, d ≠ .str z) : ∃ t, TyX K H v t ∧ PySem.W.kitOne K t (.type "str") = some false := by
  cases h with
  | non => exact ⟨_, .base .non, kit_ty (by decide +kernel)⟩
  | bl b => exact ⟨_, .base (.bl b), kit_ty (by decide +kernel)⟩
  | int n => exact ⟨_, .base (.int n), kit_ty (by decide +kernel)⟩
  | str z => exact absurd rfl (hn z)
  | dic e => exact ⟨_, .base (.dK e), kit_ty (by decide +kernel)⟩
  | lst e _ => exact ⟨_, .base (.lst e), kit_ty (by decide +kernel)⟩
  | tup e _ => exact ⟨_, .base (.tup e), kit_ty (by decide +kernel)⟩
theorem all_map {α : Type} (l : List α) (f : α → Bool) : ((l.map f).all id) = l.all f := by
  induction l with
  | nil => rfl
  | cons x t ih => rw [List.map_cons, List.all_cons, List.all_cons, ih]; rfl
def spD_is_kind : Sp := fun vs H Q _ => ∃ (v : V) (d : Dat), vs = [v] ∧ Rp H v d ∧ d.fit ∧ ∀ H', Same H H' → Q (.bl d.kind) H'
theorem okD_is_kind (D : Df K mg "is_kind" s_is_kind) (T : Tx mg) : Has P w K mg base 1 "is_kind" ["value"] spD_is_kind := by
  refine has_of D sc_is_kind (fun _ _ _ _ _ _ us hl => match us, hl with | [_], _ => rfl) (fun vs H Q E h => ?_) (fun f cdv A outer s H vs Q E hr h => ?_)
  · obtain ⟨v, d, rfl, _⟩ := h
    rfl
  · obtain ⟨v, d, rfl, hv, fit, q⟩ := h
    refine ⟨_, (pss_cons (ps_if (PW.pt (pw_or (pt_not (pt_val (pe_callB call_isi (by rfl) T.n_isinstance (by decide +kernel) (pa_cons (pv 0) (pa_cons (pe_bltn (v := .ty "str") (by rfl) T.n_str (by decide +kernel) rfl) pa_nil))))) (pw_or1 (pt_not (pt_chain op_le op_le pe_int (pe_callB call_len_str (by rfl) T.n_len (by decide +kernel) (pa_cons (pv 0) pa_nil)) (pe_glI T.c_MAX_LETTERS (by rfl))))))) (pss_one (ps_ret pe_bl)) pss_nil)
    (pss_one (ps_ret (pe_callB (cr_all rfl) (by rfl) T.n_all (by decide +kernel) (pa_cons (pe_lc (own := [("letter", 1)]) rfl sc_is_kind.nd (pi_str (pv 0)) (blkOk_by (N := ["value", "letter"]) (sc := defScope s_is_kind) (by decide +kernel)) (fun _ _ _ _ _ => (pg_name (i := 1) sc_is_kind.nd rfl (by first | exact Or.inl rfl | exact Or.inr rfl))) (fun _ _ _ _ _ => pts_nil) (fun _ _ _ _ _ => (pe_chain op_le_str op_le_str pe_str (pv 1) pe_str))) pa_nil))))), ?_⟩
    by_cases hn : ∀ z, d ≠ .str z
    · obtain ⟨t, h1, h2⟩ := kitS (K := K) hv hn
      have e : d.kind = false := by
        cases d with
        | str z => exact absurd rfl (hn z)
        | _ => rfl
      rw [e] at q
      exact ⟨_, rfl, _, _, _, _, false, rfl, .ty "str", h1, h2, false, rfl, iteT (q H (Same.refl H))⟩
    have hn : ∃ z, d = .str z := by
      apply Classical.byContradiction
      intro c
      exact hn fun z e => c ⟨z, e⟩
    obtain ⟨z, rfl⟩ := hn
    cases hv
    have fit : z.length ≤ 4000 := fit
    refine ⟨_, rfl, _, _, _, _, true, rfl, .ty "str", .base (.str z), kit_ty (by decide +kernel), true, rfl, iteF ?_⟩
    have no : ¬ (1 ≤ (z.length : Int) ∧ (z.length : Int) ≤ 8) → (Dat.str z).kind = false := fun c => by
      show (decide _ && _) = false
      rw [decide_eq_false c]
      rfl
    refine ⟨_, rfl, z, rfl, smallE (by omega), _, _, rfl, rfl, _, rfl, ?_⟩
    by_cases c1 : (1 : Int) ≤ (z.length : Int)
    · refine iteP (decide_eq_true c1) ⟨_, _, rfl, rfl, _, rfl, ?_⟩
      by_cases c2 : (z.length : Int) ≤ 8
      · refine iteN ?_ ?_
        · show (!decide ((z.length : Int) ≤ 8)) = false
          rw [decide_eq_true c2]
          rfl
        refine ⟨_, rfl, z, rfl, fun L nL => lc_gen (n := z.cps.size) (fun i H' => Same H H' ∧ H' L = some (.lst (((z.cps.toList.take i).map fun c => decide (97 ≤ c ∧ c ≤ 122)).map V.bl))) ⟨same_upd nL, upd_same⟩ (fun i H' hi _ => hi) (fun H' _ => Nat.le_refl _) (fun i x H1 H2 hi p y => ?_) (fun H' p => ?_)⟩
        · obtain ⟨rfl, c, ec, rfl⟩ := y
          obtain ⟨sm, hL⟩ := p
          have ec' : z.cps.toList[i]? = some c := by
            rw [Array.getElem?_toList]
            exact ec
          have ea : ("a" : Str).cps.toList = [97] := by decide +kernel
          have ez : ("z" : Str).cps.toList = [122] := by decide +kernel
          have lim : (((z.cps.toList.take i).map fun c => decide (97 ≤ c ∧ c ≤ 122)).map V.bl).length < sizeLine := by
            simp only [List.length_map, List.length_take]
            exact small (by have : z.cps.size = z.length := rfl; omega)
          have put : ∀ b : Bool, b = decide (97 ≤ c ∧ c ≤ 122) → Same H (upd H2 L (.lst ((((z.cps.toList.take i).map fun c => decide (97 ≤ c ∧ c ≤ 122)).map V.bl) ++ [V.bl b]))) ∧ (upd H2 L (.lst ((((z.cps.toList.take i).map fun c => decide (97 ≤ c ∧ c ≤ 122)).map V.bl) ++ [V.bl b]))) L = some (.lst (((z.cps.toList.take (i + 1)).map fun c => decide (97 ≤ c ∧ c ≤ 122)).map V.bl)) := by
            intro b hb
            refine ⟨same_grow nL sm, ?_⟩
            rw [upd_same, take_snoc ec', List.map_append, List.map_append, hb]
            rfl
          have t1 : (!decide (([c] : List Nat) < ("a" : Str).cps.toList)) = decide (97 ≤ c) := by rw [ea, lex1]
          have t2 : (!decide ((("z" : Str).cps.toList) < ([c] : List Nat))) = decide (c ≤ 122) := by rw [ez, lex1]
          refine ⟨rfl, yesT ⟨_, rfl, _, _, rfl, rfl, _, rfl, ?_⟩⟩
          by_cases b1 : 97 ≤ c
          · refine iteP (t1.trans (decide_eq_true b1)) ⟨_, _, rfl, rfl, _, hL, lim, put _ ?_⟩
            exact t2.trans (decide_eq_decide.mpr ⟨fun z => ⟨b1, z⟩, fun z => z.2⟩)
          · refine iteN (t1.trans (decide_eq_false b1)) ⟨_, hL, lim, put _ ?_⟩
            exact (decide_eq_false (p := 97 ≤ c ∧ c ≤ 122) (fun z => b1 z.1)).symm
        · refine ⟨L, _, rfl, .of p.2, ?_⟩
          have e : (((z.cps.toList.take z.cps.size).map fun c => decide (97 ≤ c ∧ c ≤ 122)).all id) = (Dat.str z).kind := by
            rw [all_map, List.take_of_length_le (by rw [Array.length_toList]; exact Nat.le_refl _)]
            show _ = (decide _ && _)
            rw [decide_eq_true ⟨c1, c2⟩]
            rfl
          rw [e]
          exact q H' p.1
      · refine iteP ?_ ?_
        · show (!decide ((z.length : Int) ≤ 8)) = true
          rw [decide_eq_false c2]
          rfl
        rw [no fun k => c2 k.2] at q
        exact q H (Same.refl H)
    · rw [no fun k => c1 k.1] at q
      exact iteN (decide_eq_false c1) ⟨_, rfl, iteT (q H (Same.refl H))⟩
theorem Rp.two {H : Hp} {v : V} {d x y : Dat} (h : Rp H v d) (e : d.two = some (x, y)) : ∃ a vx vy, v = .ref a ∧ Sq2 H a [vx, vy] ∧ Rp H vx x ∧ Rp H vy y := by
  cases hp : d.parts with
  | none =>
    unfold Dat.two at e
    rw [hp] at e
    cases e
  | some l =>
    obtain ⟨a, xs, rfl, hx, hq⟩ := h.seq hp
    unfold Dat.two at e
    rw [hp] at e
    cases hq with
    | nil => cases e
    | cons h1 t1 =>
      cases t1 with
      | nil => cases e
      | cons h2 t2 =>
        cases t2 with
        | nil =>
          cases e
          exact ⟨a, _, _, rfl, hx, h1, h2⟩
        | cons h3 t3 => cases e
theorem couple_two {d : Dat} : d.couple = d.two.isSome := by
  unfold Dat.couple Dat.two
  cases d.parts with
  | none => rfl
  | some l =>
    match l with
    | [] => rfl
    | [x] => rfl
    | [x, y] => rfl
    | x :: y :: z :: t =>
      show decide ((x :: y :: z :: t).length = 2) = false
      exact decide_eq_false (by simp only [List.length_cons]; omega)
def spD_is_run : Sp := fun vs H Q _ => ∃ (v : V) (d : Dat), vs = [v] ∧ Rp H v d ∧ d.fit2 ∧ ∀ H', Same H H' → Q (.bl d.run) H'
theorem okD_is_run (D : Df K mg "is_run" s_is_run) (T : Tx mg) (G_is_couple : Has P w K mg base 1 "is_couple" ["value"] spD_is_couple) (G_is_kind : Has P w K mg base 1 "is_kind" ["value"] spD_is_kind) (G_is_within : Has P w K mg base 2 "is_within" ["value", "low", "high"] spD_is_within) :
    Has P w K mg base 3 "is_run" ["value"] spD_is_run := by
  refine has_of D sc_is_run (fun _ _ _ _ _ _ us hl => match us, hl with | [_], _ => rfl) (fun vs H Q E h => ?_) (fun f cdv A outer s H vs Q E hr h => ?_)
  · obtain ⟨v, d, rfl, _⟩ := h
    rfl
  · obtain ⟨v, d, rfl, hv, fit, q⟩ := h
    refine ⟨_, (pss_one (ps_ret (pe_and (pe_callH G_is_couple (hr.mono (by omega)) (by rfl) (pa_cons (pv 0) pa_nil)) (pe_and (pe_callH G_is_kind (hr.mono (by omega)) (by rfl) (pa_cons (pe_ix ix_seq (pv 0) pe_int (fun _ _ => rfl)) pa_nil)) (pe_one (pe_callH G_is_within (hr.mono (by omega)) (by rfl) (pa_cons (pe_ix ix_seq (pv 0) pe_int (fun _ _ => rfl)) (pa_cons pe_int (pa_cons (pe_glI T.c_MAX_COUNT (by rfl)) pa_nil))))))))), ?_⟩
    refine ⟨_, rfl, v, d, rfl, hv, fun H1 s1 => ⟨d.couple, rfl, ?_⟩⟩
    cases ht : d.two with
    | none =>
      have e1 : d.couple = false := by rw [couple_two, ht]; rfl
      have e2 : d.run = false := by unfold Dat.run; rw [ht]
      rw [e2] at q
      refine iteN e1 ?_
      exact q _ s1
    | some p =>
      obtain ⟨x, y⟩ := p
      have e1 : d.couple = true := by rw [couple_two, ht]; rfl
      have e2 : d.run = (x.kind && y.inI 1 1000000000000000000000000000000) := by unfold Dat.run; rw [ht]
      rw [e2] at q
      obtain ⟨a, vx, vy, rfl, hs, hx, hy⟩ := hv.two ht
      refine iteP e1 ?_
      refine ⟨_, rfl, ix0 (hs.same s1) ⟨vx, x, rfl, hx.same s1, fit x y ht, fun H2 s2 => ⟨x.kind, rfl, ?_⟩⟩⟩
      by_cases ck : x.kind = true
      · refine iteP ck ?_
        rw [ck] at q
        refine ⟨_, rfl, ix1 ((hs.same s1).same s2) ⟨vy, y, 1, _, rfl, hy.same (s1.trans s2), q _ (s1.trans s2)⟩⟩
      · have ck : x.kind = false := by simpa using ck
        refine iteN ck ?_
        rw [ck] at q
        exact q _ (s1.trans s2)
def spD_is_state : Sp := fun vs H Q _ => ∃ (v : V) (d : Dat), vs = [v] ∧ Rp H v d ∧ d.fit2 ∧ ∀ H', Same H H' → Q (.bl d.state) H'
theorem okD_is_state (D : Df K mg "is_state" s_is_state) (T : Tx mg) (G_is_couple : Has P w K mg base 1 "is_couple" ["value"] spD_is_couple) (G_is_kind : Has P w K mg base 1 "is_kind" ["value"] spD_is_kind) (G_is_whole : Has P w K mg base 1 "is_whole" ["value"] spD_is_whole) :
    Has P w K mg base 2 "is_state" ["value"] spD_is_state := by
  refine has_of D sc_is_state (fun _ _ _ _ _ _ us hl => match us, hl with | [_], _ => rfl) (fun vs H Q E h => ?_) (fun f cdv A outer s H vs Q E hr h => ?_)
  · obtain ⟨v, d, rfl, _⟩ := h
    rfl
  · obtain ⟨v, d, rfl, hv, fit, q⟩ := h
    refine ⟨_, (pss_cons (ps_if (pt_cmpR op_isN (pv 0) pe_non (nomark _)) (pss_one (ps_ret pe_bl)) pss_nil)
    (pss_one (ps_ret (pe_and (pe_callH G_is_couple (hr.mono (by omega)) (by rfl) (pa_cons (pv 0) pa_nil)) (pe_and (pe_callH G_is_kind (hr.mono (by omega)) (by rfl) (pa_cons (pe_ix ix_seq (pv 0) pe_int (fun _ _ => rfl)) pa_nil)) (pe_and (pe_callH G_is_whole (hr.mono (by omega)) (by rfl) (pa_cons (pe_ix ix_seq (pv 0) pe_int (fun _ _ => rfl)) pa_nil)) (pe_one (pe_cmpR op_ge (pe_ix ix_seq (pv 0) pe_int (fun _ _ => rfl)) pe_int (nomark _))))))))), ?_⟩
    by_cases dn : d = .non
    · subst dn
      cases hv
      exact ⟨_, rfl, rfl, _, rfl, iteP rfl (q H (Same.refl H))⟩
    have vn : decide (v = V.non) = false := by
      refine decide_eq_false fun z => dn ?_
      subst z
      cases hv
      rfl
    have e0 : d.state = match d.two with
      | some (x, y) => x.kind && y.pos
      | none => false := by
      cases d with
      | non => exact absurd rfl dn
      | _ => rfl
    refine ⟨_, rfl, rfl, _, rfl, iteN vn ?_⟩
    refine ⟨_, rfl, v, d, rfl, hv, fun H1 s1 => ⟨d.couple, rfl, ?_⟩⟩
    cases ht : d.two with
    | none =>
      have e1 : d.couple = false := by rw [couple_two, ht]; rfl
      rw [e0, ht] at q
      refine iteN e1 ?_
      exact q _ s1
    | some p =>
      obtain ⟨x, y⟩ := p
      have e1 : d.couple = true := by rw [couple_two, ht]; rfl
      rw [e0, ht] at q
      obtain ⟨a, vx, vy, rfl, hs, hx, hy⟩ := hv.two ht
      refine iteP e1 ?_
      refine ⟨_, rfl, ix0 (hs.same s1) ⟨vx, x, rfl, hx.same s1, fit x y ht, fun H2 s2 => ⟨x.kind, rfl, ?_⟩⟩⟩
      have s12 := s1.trans s2
      by_cases ck : x.kind = true
      · refine iteP ck ?_
        refine ⟨_, rfl, ix1 ((hs.same s1).same s2) ⟨vy, y, rfl, hy.same s12, y.isI, rfl, ?_⟩⟩
        have q := q _ s12
        rw [show (match some (x, y) with | some (x, y) => x.kind && y.pos | none => false) = y.pos by show (x.kind && y.pos) = y.pos; rw [ck]; rfl] at q
        by_cases ci : y.isI = true
        · refine iteP ci ?_
          cases hy with
          | int n =>
            exact ⟨_, rfl, ix1 ((hs.same s1).same s2) ⟨_, _, rfl, rfl, q⟩⟩
          | _ => cases ci
        · have ci : y.isI = false := by simpa using ci
          refine iteN ci ?_
          rw [show y.pos = false by cases y with | int n => cases ci | _ => rfl] at q
          exact q
      · have ck : x.kind = false := by simpa using ck
        refine iteN ck ?_
        have q := q _ s12
        rw [show (match some (x, y) with | some (x, y) => x.kind && y.pos | none => false) = false by show (x.kind && y.pos) = false; rw [ck]; rfl] at q
        exact q
end
/-- the kind of a run -/
def Dat.key (d : Dat) : Str := match d.two with
  | some (.str z, _) => z
  | _ => ""
def keyAt (l : List Dat) (i : Nat) : Str := match l[i]? with
  | some d => d.key
  | none => ""
def stepB (l : List Dat) (i : Nat) : Bool := !decide (V.str (keyAt l i) = V.str (keyAt l (i + 1)))
def Dat.seq (d : Dat) : Bool := match d.parts with
  | some l => decide ((l.length : Int) ≤ 400) && (l.all Dat.run && ((List.range (l.length - 1)).map (stepB l)).all id)
  | none => false
def Dat.fits (d : Dat) : Prop := ∀ l, d.parts = some l → l.length ≤ 100000 ∧ ∀ x ∈ l, x.fit2
theorem run_two {d : Dat} (h : d.run = true) : ∃ z y, d.two = some (.str z, y) ∧ d.key = z := by
  unfold Dat.run at h
  cases ht : d.two with
  | none => rw [ht] at h; cases h
  | some p =>
    obtain ⟨x, y⟩ := p
    rw [ht] at h
    have h : (x.kind && y.inI 1 1000000000000000000000000000000) = true := h
    cases x with
    | str z => exact ⟨z, y, rfl, by unfold Dat.key; rw [ht]⟩
    | _ => cases h
theorem range_snoc {α : Type} (f : Nat → α) (i : Nat) : (List.range (i + 1)).map f = (List.range i).map f ++ [f i] := by
  rw [List.range_succ, List.map_append]
  rfl
section
variable {P : Program} {w : World} {K : PySem.W.Frag} {mg : Str → Option Value} {base : Heap}
def spD_is_sequence : Sp := fun vs H Q _ => ∃ (v : V) (d : Dat), vs = [v] ∧ Rp H v d ∧ d.fits ∧ ∀ H', Same H H' → Q (.bl d.seq) H'
theorem okD_is_sequence (D : Df K mg "is_sequence" s_is_sequence) (T : Tx mg) (G_is_listed : Has P w K mg base 1 "is_listed" ["value", "most"] spD_is_listed) (G_is_run : Has P w K mg base 3 "is_run" ["value"] spD_is_run) :
    Has P w K mg base 4 "is_sequence" ["value"] spD_is_sequence := by
  refine has_of D sc_is_sequence (fun _ _ _ _ _ _ us hl => match us, hl with | [_], _ => rfl) (fun vs H Q E h => ?_) (fun f cdv A outer s H vs Q E hr h => ?_)
  · obtain ⟨v, r, rfl, _⟩ := h
    rfl
  · obtain ⟨v, d, rfl, hv, fit, q⟩ := h
    refine ⟨_, (pss_cons (ps_if (PW.pt (pw_or (pt_not (pt_val (pe_callH G_is_listed (hr.mono (by omega)) (by rfl) (pa_cons (pv 0) (pa_cons (pe_glI T.c_MAX_RUNS (by rfl)) pa_nil))))) (pw_or1 (pt_not (pt_val (pe_callB (cr_all rfl) (by rfl) T.n_all (by decide +kernel) (pa_cons (pe_lc (own := [("run", 1)]) rfl sc_is_sequence.nd (pi_seqV 0) (blkOk_by (N := ["value", "run", "following"]) (sc := defScope s_is_sequence) (by decide +kernel)) (fun _ _ _ _ _ => (pg_name (i := 1) sc_is_sequence.nd rfl (by first | exact Or.inl rfl | exact Or.inr rfl))) (fun _ _ _ _ _ => pts_nil) (fun _ _ _ _ _ => (pe_callH G_is_run (hr.mono (by omega)) (by rfl) (pa_cons (pv 1) pa_nil)))) pa_nil))))))) (pss_one (ps_ret pe_bl)) pss_nil)
    (pss_one (ps_ret (pe_callB (cr_all rfl) (by rfl) T.n_all (by decide +kernel) (pa_cons (pe_lc (own := [("run", 1), ("following", 2)]) rfl sc_is_sequence.nd (pi_zip1 (i := 0) (RZ.pi_zipA (by rfl) T.n_zip (pa_cons (pv 0) (pa_cons (pe_slice (SlR.or sl_list sl_tupA) (pv 0) (po_some pe_int) po_none) pa_nil))) (fun _ _ _ q => ⟨1, rfl, q⟩) (fun _ _ _ q => q)) (blkOk_by (N := ["value", "run", "following"]) (sc := defScope s_is_sequence) (by decide +kernel)) (fun _ _ _ _ _ => (pg_tupK (K := K) (n := 2) rfl rfl (pgs_cons (pg_name (i := 1) sc_is_sequence.nd rfl (by first | exact Or.inl rfl | exact Or.inr rfl)) (pgs_cons (pg_name (i := 2) sc_is_sequence.nd rfl (by first | exact Or.inl rfl | exact Or.inr rfl)) pgs_nil)))) (fun _ _ _ _ _ => pts_nil) (fun _ _ _ _ _ => (pe_cmpR op_ne (pe_ix (ix_seqK (K := K) rfl) (pv 1) pe_int (fun _ _ => rfl)) (pe_ix (ix_seqK (K := K) rfl) (pv 2) pe_int (fun _ _ => rfl)) (nomark _)))) pa_nil))))), ?_⟩
    refine ⟨_, rfl, v, d, 400, rfl, hv, fun H1 s1 => ⟨_, rfl, ?_⟩⟩
    by_cases cl : d.listed 400 = true
    · refine iteN (by rw [cl]; rfl) ?_
      obtain ⟨l, hd⟩ : ∃ l, d.parts = some l := by
        cases hp : d.parts with
        | some l => exact ⟨l, rfl⟩
        | none =>
          unfold Dat.listed at cl
          rw [hp] at cl
          cases cl
      obtain ⟨a, xs, rfl, hx, hp⟩ := hv.seq hd
      have lx : xs.length = l.length := Paired.len hp
      obtain ⟨l5, fit⟩ := fit l hd
      have l4 : (l.length : Int) ≤ 400 := by
        unfold Dat.listed at cl
        rw [hd] at cl
        exact of_decide_eq_true cl
      have e0 : d.seq = (l.all Dat.run && ((List.range (l.length - 1)).map (stepB l)).all id) := by
        unfold Dat.seq
        rw [hd]
        show (decide _ && _) = _
        rw [decide_eq_true l4]
        rfl
      rw [e0] at q
      refine ⟨a, xs, rfl, hx.same s1, fun J wk L nL => lc_wk wk (fun i H' => Same H1 H' ∧ H' L = some (.lst (((l.take i).map Dat.run).map V.bl))) (fun _ _ p => p.1) ⟨same_upd nL, upd_same⟩ (fun i x H2 ex p => ?_) (fun H2 p => ?_)⟩
      · obtain ⟨sm, hL⟩ := p
        obtain ⟨r, er, hr1⟩ := Paired.at hp ex
        have hi : i < xs.length := (List.getElem?_eq_some_iff.mp ex).1
        refine ⟨rfl, yesT ⟨_, rfl, x, r, rfl, hr1.same (s1.trans sm), fit r (List.mem_of_getElem? er), fun H3 s3 => ⟨_, s3 _ _ hL, ?_, same_grow nL (sm.trans s3), ?_⟩⟩⟩
        · simp only [List.length_map, List.length_take]
          exact small (by omega)
        · rw [upd_same, take_snoc er, List.map_append, List.map_append]
          rfl
      · rw [lx, List.take_length] at p
        refine ⟨L, _, rfl, .of p.2, _, rfl, ?_⟩
        rw [all_map]
        have s2 : Same H H2 := s1.trans p.1
        by_cases ca : l.all Dat.run = true
        · rw [ca] at q
          refine iteN (by rw [ca]; rfl) ?_
          have rok : ∀ (i : Nat) (x : Dat), l[i]? = some x → x.run = true := fun i x h => List.all_eq_true.mp ca x (List.mem_of_getElem? h)
          refine ⟨a, xs, rfl, hx.same s2, fun J Hc sc wk M nM => ?_⟩
          have sA : Same H Hc := s2.trans sc
          refine lc_gen (n := xs.length - 1) (fun i H' => Same Hc H' ∧ H' M = some (.lst (((List.range i).map (stepB l)).map V.bl))) ⟨same_upd nM, upd_same⟩ (fun i H' hi p => wk.go i H' p.1 (by omega)) (fun H' p => wk.stop H' p.1) (fun i x H3 H4 hi p y => ?_) (fun H' p => ?_)
          · obtain ⟨T', x1, x2, rfl, nT, rfl, g1, g2⟩ := wk.yld i x H3 H4 p.1 y
            obtain ⟨sm, hM⟩ := p
            have g2 := g2 (by omega)
            have sB : Same H H3 := sA.trans sm
            obtain ⟨r1, e1, v1⟩ := Paired.at hp g1
            obtain ⟨r2, e2, v2⟩ := Paired.at hp g2
            obtain ⟨z1, y1, t1, k1⟩ := run_two (rok _ _ e1)
            obtain ⟨z2, y2, t2, k2⟩ := run_two (rok _ _ e2)
            obtain ⟨a1, u1, u1', rfl, w1, m1, _⟩ := (v1.same (sB.trans (same_upd (o := .tup [x1, x2]) nT))).two t1
            obtain ⟨a2, u2, u2', rfl, w2, m2, _⟩ := (v2.same (sB.trans (same_upd (o := .tup [_, x2]) nT))).two t2
            cases m1
            cases m2
            refine ⟨T', _, rfl, .of upd_same, rfl, _, _, rfl, _, _, rfl, rfl, rfl, yesT ?_⟩
            refine ⟨_, rfl, ix0 w1 ⟨_, rfl, ix0 w2 ⟨rfl, _, same_upd nT _ _ hM, ?_, same_grow nM (sm.trans (same_upd nT)), ?_⟩⟩⟩
            · simp only [List.length_map, List.length_range]
              exact small (by omega)
            · rw [upd_same, range_snoc, List.map_append]
              have eb : stepB l i = !decide (V.str z1 = V.str z2) := by
                unfold stepB keyAt
                rw [e1, e2]
                show (!decide (V.str r1.key = V.str r2.key)) = _
                rw [k1, k2]
              rw [← eb]
              rfl
          · refine ⟨M, _, rfl, .of p.2, ?_⟩
            rw [lx]
            exact q _ (sA.trans p.1)
        · have ca : l.all Dat.run = false := by simpa using ca
          rw [ca] at q
          exact iteP (by rw [ca]; rfl) (q _ s2)
    · have cl : d.listed 400 = false := by simpa using cl
      have e0 : d.seq = false := by
        unfold Dat.listed at cl
        unfold Dat.seq
        cases hp : d.parts with
        | none => rfl
        | some l =>
          rw [hp] at cl
          have cl : decide ((l.length : Int) ≤ 400) = false := cl
          show (decide _ && _) = false
          rw [cl]
          rfl
      rw [e0] at q
      exact iteP (by rw [cl]; rfl) (q _ s1)
end
end UP

set_option Elab.async false
set_option linter.all false
set_option maxRecDepth 100000
set_option maxHeartbeats 4000000
namespace UP
open PySem PySem.Spec PyProof.Rows L2
/-! ### written values -/
def Lit (σ : L2.St) (H0 : Hp) (t : TE) (d : Dat) : Prop := ∀ H (Q : VK), Same H0 H → (∀ H' v, Same H H' → Rp H' v d → Q v H') → t σ H Q
def Lits (σ : L2.St) (H0 : Hp) (t : TA) (ds : List Dat) : Prop := ∀ H (Q : List V → Hp → Prop), Same H0 H → (∀ H' vs, Same H H' → Paired (Rp H') vs ds → Q vs H') → t σ H Q
section
variable {σ : L2.St} {H0 : Hp}
theorem Lit.go {H : Hp} {t : TE} {d : Dat} {Q : VK} (h : Lit σ H t d) (q : ∀ H' v, Same H H' → Rp H' v d → Q v H') : t σ H Q := h H Q (Same.refl _) q
theorem lit_non : Lit σ H0 (tC .non) .non := fun H Q _ q => q H _ (Same.refl _) .non
theorem lit_int {n : Int} : Lit σ H0 (tC (.int n)) (.int n) := fun H Q _ q => q H _ (Same.refl _) (.int n)
theorem lit_bl {b : Bool} : Lit σ H0 (tC (.bl b)) (.bl b) := fun H Q _ q => q H _ (Same.refl _) (.bl b)
theorem lit_str {z : Str} : Lit σ H0 (tC (.str z)) (.str z) := fun H Q _ q => q H _ (Same.refl _) (.str z)
theorem lit_dic : Lit σ H0 tDNewK .dic := fun H Q _ q p np => q _ _ (same_upd np) (.dic upd_same)
theorem lit_var {i : Nat} {v : V} {d : Dat} (e : σ[i]? = some (some v)) (h : Rp H0 v d) : Lit σ H0 (tVar i) d := fun H Q s q => ⟨v, e, q H v (Same.refl _) (h.same s)⟩
theorem lit_val {t : TE} {v : V} {d : Dat} (h : ∀ H (Q : VK), Q v H → t σ H Q) (r : ∀ H, Rp H v d) : Lit σ H0 t d := fun H Q _ q => h H Q (q H v (Same.refl _) (r H))
theorem lits_nil : Lits σ H0 tNil [] := fun H Q _ q => q H [] (Same.refl _) .nil
theorem lits_cons {t : TE} {ts : TA} {d : Dat} {ds : List Dat} (h1 : Lit σ H0 t d) (h2 : Lits σ H0 ts ds) : Lits σ H0 (tCons t ts) (d :: ds) := fun H Q s q => h1 H _ s fun H1 v s1 r1 => h2 H1 _ (s.trans s1) fun H2 vs s2 r2 => q H2 (v :: vs) (s1.trans s2) (.cons (r1.same s2) r2)
theorem rps_same {H H' : Hp} {xs : List V} {ds : List Dat} (s : Same H H') (h : Paired (Rp H) xs ds) : Paired (Rp H') xs ds := Paired.imp (fun _ _ => Rp.same s) h
theorem lit_lst {ts : TA} {ds : List Dat} (h : Lits σ H0 ts ds) (l : ds.length ≤ 1000) : Lit σ H0 (tLst ts) (.lst ds) := fun H Q s q => h H _ s fun H1 vs s1 r => ⟨by rw [Paired.len r]; exact smallE (by omega), fun p np => q _ _ (s1.trans (same_upd np)) (.lst upd_same (rps_same (same_upd np) r))⟩
theorem lit_tup {ts : TA} {ds : List Dat} (h : Lits σ H0 ts ds) (l : ds.length ≤ 1000) : Lit σ H0 (tTup ts) (.tup ds) := fun H Q s q => h H _ s fun H1 vs s1 r => ⟨by rw [Paired.len r]; exact smallE (by omega), fun p np => q _ _ (s1.trans (same_upd np)) (.tup upd_same (rps_same (same_upd np) r))⟩
theorem lit_cat {t u : TE} {a b : List Dat} (h1 : Lit σ H0 t (.lst a)) (h2 : Lit σ H0 u (.lst b)) (l : a.length + b.length ≤ 1000) : Lit σ H0 (tOp rCat t u) (.lst (a ++ b)) := fun H Q s q => h1 H _ s fun H1 v s1 r1 => h2 H1 _ (s.trans s1) fun H2 w s2 r2 => by
  cases r1.same s2 with
  | lst e1 p1 =>
    cases r2 with
    | lst e2 p2 =>
      refine ⟨_, _, _, _, rfl, rfl, e1, e2, ?_, fun p np => q _ _ (s1.trans (s2.trans (same_upd np))) (.lst upd_same (rps_same (same_upd np) (Paired.app p1 p2)))⟩
      rw [Paired.len p1, Paired.len p2]
      exact smallE (by omega)
theorem rep_pair {α β : Type} {F : α → β → Prop} {xs : List α} {ys : List β} (h : Paired F xs ys) : ∀ n : Nat, Paired F (List.replicate n xs).flatten (List.replicate n ys).flatten
  | 0 => .nil
  | n + 1 => by
    rw [List.replicate_succ, List.replicate_succ, List.flatten_cons, List.flatten_cons]
    exact Paired.app h (rep_pair h n)
theorem lit_rep {t : TE} {a : List Dat} {k : Int} (h1 : Lit σ H0 t (.lst a)) (k0 : 0 ≤ k) (k1 : k ≤ 1000) (l : a.length * k.toNat ≤ 1000) : Lit σ H0 (tOp rRep t (tC (.int k))) (.lst (List.replicate k.toNat a).flatten) := fun H Q s q => h1 H _ s fun H1 v s1 r1 => by
  cases r1 with
  | lst e1 p1 =>
    refine ⟨_, k, _, rfl, rfl, e1, by omega, by omega, ?_, fun p np => q _ _ (s1.trans (same_upd np)) (.lst upd_same (rps_same (same_upd np) (rep_pair p1 _)))⟩
    rw [Paired.len p1]
    exact smallE (by omega)
end
/-- an index into a written list -/
theorem rp_at {H : Hp} {v : V} {ds : List Dat} {i : Int} (h : Rp H v (.lst ds)) (i0 : 0 ≤ i) (i1 : i.toNat < ds.length) : ∃ a xs x, v = .ref a ∧ H a = some (.lst xs) ∧ atI xs i = some x ∧ Rp H x ds[i.toNat] := by
  cases h with
  | lst e p =>
    obtain ⟨x, ex, hx⟩ := Paired.at' p (List.getElem?_eq_getElem i1)
    exact ⟨_, _, x, rfl, e, atI_of i0 ex, hx⟩
theorem lit_set {t : TE} {d : Dat} {i : Nat} {D : Ends} {rest : TS} {σ : L2.St} {H : Hp} (h : Lit σ H t d) (q : ∀ H' v, Same H H' → Rp H' v d → rest D (σ.set i (some v)) H') : tSeq (tAsg t (gName i)) rest D σ H := h H _ (Same.refl _) q
theorem lit_retIx {K : PySem.W.Frag} {t u : TE} {ds : List Dat} {D : Ends} {σ : L2.St} {H : Hp} (h : Lit σ H t (.lst ds)) (q : ∀ H' v, Same H H' → Rp H' v (.lst ds) → u σ H' (fun y H2 => rIxL K v y H2 D.rt)) : tRet (tOp (rIxL K) t u) D σ H := h H _ (Same.refl _) q
/-! ### the spring is none of these values -/
def Dat.three : List Dat → Bool
  | [.int _, .int _, .int _] => true
  | _ => false
mutual
def Dat.calm : Dat → Bool
  | .lst l => (!Dat.three l) && Dat.calms l
  | .tup l => Dat.calms l
  | _ => true
def Dat.calms : List Dat → Bool
  | [] => true
  | x :: t => x.calm && Dat.calms t
end
theorem three_ints {H : Hp} {a b c : Int} {l : List Dat} (h : Paired (Rp H) [.int a, .int b, .int c] l) : l = [.int a, .int b, .int c] := by
  cases h with
  | cons h1 h =>
    cases h1
    cases h with
    | cons h2 h =>
      cases h2
      cases h with
      | cons h3 h =>
        cases h3
        cases h
        rfl
theorem Rp.butS {sp : Addr} {H H' : Hp} (z : Spr H sp) (b : But sp H H') {v : V} {d : Dat} (h : Rp H v d) : d.calm = true → Rp H' v d := by
  obtain ⟨x, y, n, hs, _⟩ := z
  refine Rp.rec (motive_1 := fun v d _ => d.calm = true → Rp H' v d) (motive_2 := fun xs l _ => Dat.calms l = true → Paired (Rp H') xs l) (fun _ => .non) (fun b _ => .bl b) (fun n _ => .int n) (fun z _ => .str z) ?_ ?_ ?_ (fun _ => .nil) ?_ h
  · intro a e _
    exact .dic (b _ _ (ne_of e hs (by intro q; cases q)) e)
  · intro a xs l e p ih c
    rw [Dat.calm, Bool.and_eq_true] at c
    refine .lst (b _ _ (fun q => ?_) e) (ih c.2)
    rw [q, hs] at e
    have e := HO.lst.inj (Option.some.inj e)
    subst e
    rw [three_ints p] at c
    exact absurd c.1 (by intro z; cases z)
  · intro a xs l e p ih c
    rw [Dat.calm] at c
    exact .tup (b _ _ (ne_of e hs (by intro q; cases q)) e) (ih c)
  · intro x y xs ys _ _ h1 h2 c
    rw [Dat.calms, Bool.and_eq_true] at c
    exact .cons (h1 c.1) (h2 c.2)
end UP

set_option Elab.async false
set_option linter.all false
set_option maxRecDepth 100000
set_option maxHeartbeats 4000000
namespace UP
open PySem PySem.Spec PyProof.Rows L2
/-! ### values that are new -/
/-- the part of the heap that is new since H0 -/
def newH (H0 H : Hp) : Hp := fun b => match H0 b with
  | none => H b
  | some _ => none
theorem newH_at {H0 H : Hp} {b : Addr} (h : H0 b = none) : newH H0 H b = H b := by
  unfold newH
  rw [h]
theorem newH_old {H0 H : Hp} {b : Addr} {o : HO} (h : H0 b = some o) : newH H0 H b = none := by
  unfold newH
  rw [h]
theorem newH_sub {H0 H : Hp} : Same (newH H0 H) H := fun b o e => by
  cases h : H0 b with
  | none => rw [newH_at h] at e; exact e
  | some o' => rw [newH_old h] at e; cases e
theorem newH_same {H0 H H' : Hp} (s : Same H H') : Same (newH H0 H) (newH H0 H') := fun b o e => by
  cases h : H0 b with
  | none => rw [newH_at h] at e ⊢; exact s _ _ e
  | some o' => rw [newH_old h] at e; cases e
theorem newH_upd {H0 H : Hp} {p : Addr} {o : HO} (h : H0 p = none) : newH H0 (upd H p o) p = some o := by
  rw [newH_at h, upd_same]
/-- an old address may change -/
theorem newH_skip {H0 H : Hp} {G : Addr} {o u : HO} (h : H0 G = some u) : newH H0 (upd H G o) = newH H0 H := by
  funext b
  by_cases e : b = G
  · rw [e, newH_old h, newH_old h]
  · unfold newH
    rw [upd_ne e]
theorem Rp.keepG {H0 H : Hp} {G : Addr} {o u : HO} {v : V} {d : Dat} (h : H0 G = some u) (r : Rp (newH H0 H) v d) : Rp (upd H G o) v d := by
  rw [← newH_skip (o := o) h] at r
  exact r.same newH_sub
def LitF (σ : L2.St) (H0 Hs : Hp) (t : TE) (d : Dat) : Prop := ∀ H (Q : VK), Same H0 H → Same Hs H → (∀ H' v, Same H H' → Rp (newH H0 H') v d → Q v H') → t σ H Q
def LitsF (σ : L2.St) (H0 Hs : Hp) (t : TA) (ds : List Dat) : Prop := ∀ H (Q : List V → Hp → Prop), Same H0 H → Same Hs H → (∀ H' vs, Same H H' → Paired (Rp (newH H0 H')) vs ds → Q vs H') → t σ H Q
section
variable {σ : L2.St} {H0 Hs : Hp}
theorem litF_val {t : TE} {v : V} {d : Dat} (h : ∀ H (Q : VK), Q v H → t σ H Q) (r : ∀ H, Rp H v d) : LitF σ H0 Hs t d := fun H Q _ _ q => h H Q (q H v (Same.refl _) (r _))
theorem litF_non : LitF σ H0 Hs (tC .non) .non := litF_val (fun _ _ q => q) (fun _ => .non)
theorem litF_int {n : Int} : LitF σ H0 Hs (tC (.int n)) (.int n) := litF_val (fun _ _ q => q) (fun _ => .int n)
theorem litF_bl {b : Bool} : LitF σ H0 Hs (tC (.bl b)) (.bl b) := litF_val (fun _ _ q => q) (fun _ => .bl b)
theorem litF_str {z : Str} : LitF σ H0 Hs (tC (.str z)) (.str z) := litF_val (fun _ _ q => q) (fun _ => .str z)
theorem litF_dic : LitF σ H0 Hs tDNewK .dic := fun H Q s _ q p np => q _ _ (same_upd np) (.dic (newH_upd (s.free np)))
theorem litsF_nil : LitsF σ H0 Hs tNil [] := fun H Q _ _ q => q H [] (Same.refl _) .nil
theorem litsF_cons {t : TE} {ts : TA} {d : Dat} {ds : List Dat} (h1 : LitF σ H0 Hs t d) (h2 : LitsF σ H0 Hs ts ds) : LitsF σ H0 Hs (tCons t ts) (d :: ds) := fun H Q s t q => h1 H _ s t fun H1 v s1 r1 => h2 H1 _ (s.trans s1) (t.trans s1) fun H2 vs s2 r2 => q H2 (v :: vs) (s1.trans s2) (.cons (r1.same (newH_same s2)) r2)
theorem litF_lst {ts : TA} {ds : List Dat} (h : LitsF σ H0 Hs ts ds) (l : ds.length ≤ 1000) : LitF σ H0 Hs (tLst ts) (.lst ds) := fun H Q s t q => h H _ s t fun H1 vs s1 r => ⟨by rw [Paired.len r]; exact smallE (by omega), fun p np => q _ _ (s1.trans (same_upd np)) (.lst (newH_upd ((s.trans s1).free np)) (rps_same (newH_same (same_upd np)) r))⟩
theorem litF_tup {ts : TA} {ds : List Dat} (h : LitsF σ H0 Hs ts ds) (l : ds.length ≤ 1000) : LitF σ H0 Hs (tTup ts) (.tup ds) := fun H Q s t q => h H _ s t fun H1 vs s1 r => ⟨by rw [Paired.len r]; exact smallE (by omega), fun p np => q _ _ (s1.trans (same_upd np)) (.tup (newH_upd ((s.trans s1).free np)) (rps_same (newH_same (same_upd np)) r))⟩
theorem litF_var {i : Nat} {v : V} {d : Dat} (e : σ[i]? = some (some v)) (h : Rp (newH H0 Hs) v d) : LitF σ H0 Hs (tVar i) d := fun H Q _ s q => ⟨v, e, q H v (Same.refl _) (h.same (newH_same s))⟩
theorem litF_cat {t u : TE} {a b : List Dat} (h1 : LitF σ H0 Hs t (.lst a)) (h2 : LitF σ H0 Hs u (.lst b)) (l : a.length + b.length ≤ 1000) : LitF σ H0 Hs (tOp rCat t u) (.lst (a ++ b)) := fun H Q s w q => h1 H _ s w fun H1 v s1 r1 => h2 H1 _ (s.trans s1) (w.trans s1) fun H2 x s2 r2 => by
  cases r1.same (newH_same s2) with
  | lst e1 p1 =>
    cases r2 with
    | lst e2 p2 =>
      refine ⟨_, _, _, _, rfl, rfl, newH_sub _ _ e1, newH_sub _ _ e2, ?_, fun p np => q _ _ (s1.trans (s2.trans (same_upd np))) (.lst (newH_upd ((s.trans (s1.trans s2)).free np)) (rps_same (newH_same (same_upd np)) (Paired.app p1 p2)))⟩
      rw [Paired.len p1, Paired.len p2]
      exact smallE (by omega)
end
theorem litF_set {t : TE} {d : Dat} {i : Nat} {D : Ends} {rest : TS} {σ : L2.St} {H0 H : Hp} (s : Same H0 H) (h : LitF σ H0 H t d) (q : ∀ H' v, Same H H' → Rp (newH H0 H') v d → rest D (σ.set i (some v)) H') : tSeq (tAsg t (gName i)) rest D σ H := h H _ s (Same.refl _) q
theorem litF_retIx {K : PySem.W.Frag} {t u : TE} {ds : List Dat} {D : Ends} {σ : L2.St} {H0 H : Hp} (s : Same H0 H) (h : LitF σ H0 H t (.lst ds)) (q : ∀ H' v, Same H H' → Rp (newH H0 H') v (.lst ds) → u σ H' (fun y H2 => rIxL K v y H2 D.rt)) : tRet (tOp (rIxL K) t u) D σ H := h H _ s (Same.refl _) q
theorem litF_setIx {K : PySem.W.Frag} {t u : TE} {ds : List Dat} {i : Nat} {D : Ends} {rest : TS} {σ : L2.St} {H0 H : Hp} (s : Same H0 H) (h : LitF σ H0 H t (.lst ds)) (q : ∀ H' v, Same H H' → Rp (newH H0 H') v (.lst ds) → u σ H' (fun y H2 => rIxL K v y H2 (fun x H3 => rest D (σ.set i (some x)) H3))) : tSeq (tAsg (tOp (rIxL K) t u) (gName i)) rest D σ H := h H _ s (Same.refl _) q
/-- the spring is old -/
theorem newH_but {H0 H H' : Hp} {sp : Addr} (z : Spr H0 sp) (b : But sp H H') : Same (newH H0 H) (newH H0 H') := fun x o e => by
  cases h : H0 x with
  | none =>
    rw [newH_at h] at e ⊢
    refine b _ _ (fun q => ?_) e
    obtain ⟨_, _, _, hs, _⟩ := z
    rw [q, hs] at h
    cases h
  | some o' =>
    rw [newH_old h] at e
    cases e
end UP

set_option Elab.async false
set_option linter.all false
set_option maxRecDepth 100000
set_option maxHeartbeats 4000000
namespace UP
open PySem PySem.Spec PyProof.Rows L2
def noState : List Dat := [.int 0, .str "a", .dic, .lst [], .tup [.str "a"], .tup [.str "a", .int 0], .tup [.str "a", .int (-1)], .tup [.str "a", .bl true], .tup [.str "A", .int 1], .tup [.str "", .int 1], .tup [.str "a", .int 1, .int 1], .tup [.int 1, .str "a"], .bl true] ++ [.tup [.str "abcdefghi", .int 1], .tup [.str "a", .non], .lst [.lst [.str "a"], .int 1]]
theorem noState_bad : ∀ d ∈ noState, d.state = false := by decide +kernel
def noSeq (xs : List Dat) : List Dat := (([.non, .int 0, .str "a", .dic, .lst [.non], .lst [.tup [.str "a", .int 0]], .lst [.tup [.str "a", .int ((10 : Int) ^ ((30 : Int).toNat) + 1)]], .lst [.tup [.str "a", .bl true]], .lst [.tup [.str "a", .str "1"]], .lst [.tup [.str "A", .int 1]]] ++ [.lst [.tup [.str "", .int 1]], .lst [.tup [.str "abcdefghi", .int 1]], .lst [.tup [.str "a", .int 1], .tup [.str "a", .int 1]], .lst [.tup [.str "a"]], .lst [.tup [.str "a", .int 1, .int 1]], .tup [.str "a", .int 1], .bl true, .lst [.tup []]]) ++ [.lst ((List.replicate (200 : Int).toNat [.tup [.str "a", .int 1], .tup [.str "b", .int 1]]).flatten ++ [.tup [.str "a", .int 1]]), .lst (xs ++ [.tup [.str "b", .int (-1)]]), .lst [.tup [.int 1, .int 1]], .lst [.tup [.str "a_", .int 1]]]) ++ [.lst [.lst [.str "a", .non]]]
section
variable {P : Program} {w : World} {K : PySem.W.Frag} {mg : Str → Option Value} {base : Heap}
/-! _law_no_state: slots 0:spring 1:some -/
abbrev s_law_no_state : Stmt := topS 20
theorem sc_law_no_state : FnScope ["spring", "some"] ["spring"] (defScope s_law_no_state) := ⟨rfl, rfl, rfl, by decide +kernel, rfl, by decide +kernel, by decide +kernel⟩
def sp_law_no_state : Sp := fun vs H Q _ => ∃ (sp : Addr), vs = [.ref sp] ∧ Spr H sp ∧ ∀ H' v d, But sp H H' → Spr H' sp → d ∈ noState → Rp (newH H H') v d → Q v H'
theorem ok_law_no_state (D : Df K mg "_law_no_state" s_law_no_state) (T : Tx mg) (G_law_draw : Has P w K mg base 1 "_law_draw" ["spring", "many"] sp_law_draw) : Has P w K mg base 2 "_law_no_state" ["spring"] sp_law_no_state := by
  refine has_of D sc_law_no_state (fun _ _ _ _ _ _ us hl => match us, hl with | [_], _ => rfl) (fun vs H Q E h => ?_) (fun f cdv A outer s₀ H vs Q E hr h => ?_)
  · obtain ⟨_, rfl, _⟩ := h
    rfl
  · obtain ⟨sp, rfl, hz, q⟩ := h
    refine ⟨_, (pss_cons (ps_set (i := 1) sc_law_no_state.nd rfl (by first | exact Or.inl rfl | exact Or.inr rfl) (pe_lst (pa_cons pe_int (pa_cons pe_str (pa_cons pe_dnewK (pa_cons (pe_lst pa_nil) (pa_cons (pe_tup (pa_cons pe_str pa_nil)) (pa_cons (pe_tup (pa_cons pe_str (pa_cons pe_int pa_nil))) (pa_cons (pe_tup (pa_cons pe_str (pa_cons (pe_un un_neg pe_int) pa_nil))) (pa_cons (pe_tup (pa_cons pe_str (pa_cons pe_bl pa_nil))) (pa_cons (pe_tup (pa_cons pe_str (pa_cons pe_int pa_nil))) (pa_cons (pe_tup (pa_cons pe_str (pa_cons pe_int pa_nil))) (pa_cons (pe_tup (pa_cons pe_str (pa_cons pe_int (pa_cons pe_int pa_nil)))) (pa_cons (pe_tup (pa_cons pe_int (pa_cons pe_str pa_nil))) (pa_cons pe_bl pa_nil)))))))))))))))
    (pss_one (ps_ret (pe_ix ix_list (pe_op op_cat (pv 1) (pe_lst (pa_cons (pe_tup (pa_cons pe_str (pa_cons pe_int pa_nil))) (pa_cons (pe_tup (pa_cons pe_str (pa_cons pe_non pa_nil))) (pa_cons (pe_lst (pa_cons (pe_lst (pa_cons pe_str pa_nil)) (pa_cons pe_int pa_nil))) pa_nil))))) (pe_callH G_law_draw (hr.mono (by omega)) (by rfl) (pa_cons (pv 0) (pa_cons pe_int pa_nil))) (fun _ _ => rfl))))), ?_⟩
    refine litF_set (Same.refl _) (d := .lst [.int 0, .str "a", .dic, .lst [], .tup [.str "a"], .tup [.str "a", .int 0], .tup [.str "a", .int (-1)], .tup [.str "a", .bl true], .tup [.str "A", .int 1], .tup [.str "", .int 1], .tup [.str "a", .int 1, .int 1], .tup [.int 1, .str "a"], .bl true]) (litF_lst (litsF_cons litF_int (litsF_cons litF_str (litsF_cons litF_dic (litsF_cons (litF_lst litsF_nil (by decide)) (litsF_cons (litF_tup (litsF_cons litF_str litsF_nil) (by decide)) (litsF_cons (litF_tup (litsF_cons litF_str (litsF_cons litF_int litsF_nil)) (by decide)) (litsF_cons (litF_tup (litsF_cons litF_str (litsF_cons (litF_val (v := .int (-1)) (fun H Q q => ⟨1, rfl, q⟩) (fun H => .int _)) litsF_nil)) (by decide)) (litsF_cons (litF_tup (litsF_cons litF_str (litsF_cons litF_bl litsF_nil)) (by decide)) (litsF_cons (litF_tup (litsF_cons litF_str (litsF_cons litF_int litsF_nil)) (by decide)) (litsF_cons (litF_tup (litsF_cons litF_str (litsF_cons litF_int litsF_nil)) (by decide)) (litsF_cons (litF_tup (litsF_cons litF_str (litsF_cons litF_int (litsF_cons litF_int litsF_nil))) (by decide)) (litsF_cons (litF_tup (litsF_cons litF_int (litsF_cons litF_str litsF_nil)) (by decide)) (litsF_cons litF_bl litsF_nil))))))))))))) (by decide)) (fun H1 v1 s1 r1 => ?_)
    refine litF_retIx s1 (litF_cat (litF_var rfl r1) (litF_lst (litsF_cons (litF_tup (litsF_cons litF_str (litsF_cons litF_int litsF_nil)) (by decide)) (litsF_cons (litF_tup (litsF_cons litF_str (litsF_cons litF_non litsF_nil)) (by decide)) (litsF_cons (litF_lst (litsF_cons (litF_lst (litsF_cons litF_str litsF_nil) (by decide)) (litsF_cons litF_int litsF_nil)) (by decide)) litsF_nil))) (by decide)) (by decide)) (fun H2 v2 s2 r2 => ?_)
    refine ⟨_, rfl, sp, 16, rfl, (hz.same s1).same s2, by decide, by decide, fun H3 r b3 z3 r0 r1' => ?_⟩
    have i16 : r.toNat < noState.length := by
      show r.toNat < 16
      omega
    obtain ⟨a, xs, x, rfl, hxs, ex, hx⟩ := rp_at (r2.same (newH_but hz b3)) r0 i16
    exact ⟨a, xs, r, x, rfl, rfl, .of (newH_sub _ _ hxs), ex, q H3 x _ ((sb (s1.trans s2)).trans b3) z3 (List.getElem_mem i16) hx⟩
end
end UP

set_option Elab.async false
set_option linter.all false
set_option maxRecDepth 100000
set_option maxHeartbeats 4000000
namespace UP
open PySem PySem.Spec PyProof.Rows L2
def dR (r : Run) : Dat := .tup [.str r.1, .int r.2]
theorem rps_run {H : Hp} : ∀ {xs : List V} {rs : List Run}, Paired (RunV H) xs rs → Paired (Rp H) xs (rs.map dR)
  | _, _, .nil => .nil
  | _, _, .cons h t => by
    obtain ⟨p, rfl, hp⟩ := h
    exact .cons (.tup hp (.cons (.str _) (.cons (.int _) .nil))) (rps_run t)
theorem rp_runs {H : Hp} {a : Addr} {rs : List Run} (h : Runs H a rs) : Rp H (.ref a) (.lst (rs.map dR)) := by
  obtain ⟨xs, hx, hp⟩ := h
  exact .lst hx (rps_run hp)
theorem calms_runs : ∀ (rs : List Run) (l : List Dat), Dat.calms l = true → Dat.calms (rs.map dR ++ l) = true
  | [], _, h => h
  | r :: t, l, h => by
    show (Dat.calm (dR r) && Dat.calms (t.map dR ++ l)) = true
    rw [calms_runs t l h]
    rfl
theorem calms_app : ∀ (a b : List Dat), Dat.calms (a ++ b) = (Dat.calms a && Dat.calms b)
  | [], _ => rfl
  | x :: t, b => by
    show (Dat.calm x && Dat.calms (t ++ b)) = ((Dat.calm x && Dat.calms t) && Dat.calms b)
    rw [calms_app t b, Bool.and_assoc]
theorem three_runs : ∀ (rs : List Run) (z : Str) (n : Int), Dat.three (rs.map dR ++ [.tup [.str z, .int n]]) = false
  | [], _, _ => rfl
  | r :: t, _, _ => rfl
section
variable {P : Program} {w : World} {K : PySem.W.Frag} {mg : Str → Option Value} {base : Heap}
/-! _law_no_sequence: slots 0:spring 1:sequence 2:some -/
abbrev s_law_no_sequence : Stmt := topS 19
theorem sc_law_no_sequence : FnScope ["spring", "sequence", "some"] ["spring", "sequence"] (defScope s_law_no_sequence) := ⟨rfl, rfl, rfl, by decide +kernel, rfl, by decide +kernel, by decide +kernel⟩
def sp_law_no_sequence : Sp := fun vs H Q _ => ∃ (sp a : Addr) (rs : List Run), vs = [.ref sp, .ref a] ∧ Spr H sp ∧ Runs H a rs ∧ rs.length ≤ 400 ∧ ∀ H' v d, But sp H H' → Spr H' sp → d ∈ noSeq (rs.map dR) → Rp H' v d → Q v H'
theorem ok_law_no_sequence (D : Df K mg "_law_no_sequence" s_law_no_sequence) (T : Tx mg) (G_law_draw : Has P w K mg base 1 "_law_draw" ["spring", "many"] sp_law_draw) : Has P w K mg base 2 "_law_no_sequence" ["spring", "sequence"] sp_law_no_sequence := by
  refine has_of D sc_law_no_sequence (fun _ _ _ _ _ _ us hl => match us, hl with | [_, _], _ => rfl) (fun vs H Q E h => ?_) (fun f cdv A outer s₀ H vs Q E hr h => ?_)
  · obtain ⟨_, _, _, rfl, _⟩ := h
    rfl
  · obtain ⟨sp, a, rs, rfl, hz, hR, l4, q⟩ := h
    have hA := rp_runs hR
    have lr : (rs.map dR).length ≤ 400 := by rw [List.length_map]; exact l4
    have cr : Dat.calms (noSeq (rs.map dR)) = true := by
      have c1 := calms_runs rs [.tup [.str "b", .int (-1)]] rfl
      have c2 := three_runs rs "b" (-1)
      have cm : Dat.calm (.lst (rs.map dR ++ [.tup [.str "b", .int (-1)]])) = true := by
        rw [Dat.calm, c2, c1]
        rfl
      unfold noSeq
      rw [calms_app, calms_app, Bool.and_eq_true, Bool.and_eq_true]
      refine ⟨⟨by decide +kernel, ?_⟩, by decide +kernel⟩
      show (Dat.calm (.lst _) && (Dat.calm (.lst _) && Dat.calms _)) = true
      rw [cm]
      decide +kernel
    generalize hX : rs.map dR = X at *
    refine ⟨_, (pss_cons (ps_set (i := 2) sc_law_no_sequence.nd rfl (by first | exact Or.inl rfl | exact Or.inr rfl) (pe_lst (pa_cons pe_non (pa_cons pe_int (pa_cons pe_str (pa_cons pe_dnewK (pa_cons (pe_lst (pa_cons pe_non pa_nil)) (pa_cons (pe_lst (pa_cons (pe_tup (pa_cons pe_str (pa_cons pe_int pa_nil))) pa_nil)) (pa_cons (pe_lst (pa_cons (pe_tup (pa_cons pe_str (pa_cons (pe_op op_add (pe_op op_pow pe_int pe_int) pe_int) pa_nil))) pa_nil)) (pa_cons (pe_lst (pa_cons (pe_tup (pa_cons pe_str (pa_cons pe_bl pa_nil))) pa_nil)) (pa_cons (pe_lst (pa_cons (pe_tup (pa_cons pe_str (pa_cons pe_str pa_nil))) pa_nil)) (pa_cons (pe_lst (pa_cons (pe_tup (pa_cons pe_str (pa_cons pe_int pa_nil))) pa_nil)) pa_nil))))))))))))
    (pss_cons (ps_set (i := 2) sc_law_no_sequence.nd rfl (by first | exact Or.inl rfl | exact Or.inr rfl) (pe_op op_cat (pv 2) (pe_lst (pa_cons (pe_lst (pa_cons (pe_tup (pa_cons pe_str (pa_cons pe_int pa_nil))) pa_nil)) (pa_cons (pe_lst (pa_cons (pe_tup (pa_cons pe_str (pa_cons pe_int pa_nil))) pa_nil)) (pa_cons (pe_lst (pa_cons (pe_tup (pa_cons pe_str (pa_cons pe_int pa_nil))) (pa_cons (pe_tup (pa_cons pe_str (pa_cons pe_int pa_nil))) pa_nil))) (pa_cons (pe_lst (pa_cons (pe_tup (pa_cons pe_str pa_nil)) pa_nil)) (pa_cons (pe_lst (pa_cons (pe_tup (pa_cons pe_str (pa_cons pe_int (pa_cons pe_int pa_nil)))) pa_nil)) (pa_cons (pe_tup (pa_cons pe_str (pa_cons pe_int pa_nil))) (pa_cons pe_bl (pa_cons (pe_lst (pa_cons (pe_tup pa_nil) pa_nil)) pa_nil)))))))))))
    (pss_cons (ps_set (i := 2) sc_law_no_sequence.nd rfl (by first | exact Or.inl rfl | exact Or.inr rfl) (pe_op op_cat (pv 2) (pe_lst (pa_cons (pe_op op_cat (pe_op op_rep (pe_lst (pa_cons (pe_tup (pa_cons pe_str (pa_cons pe_int pa_nil))) (pa_cons (pe_tup (pa_cons pe_str (pa_cons pe_int pa_nil))) pa_nil))) pe_int) (pe_lst (pa_cons (pe_tup (pa_cons pe_str (pa_cons pe_int pa_nil))) pa_nil))) (pa_cons (pe_op op_cat (pv 1) (pe_lst (pa_cons (pe_tup (pa_cons pe_str (pa_cons (pe_un un_neg pe_int) pa_nil))) pa_nil))) (pa_cons (pe_lst (pa_cons (pe_tup (pa_cons pe_int (pa_cons pe_int pa_nil))) pa_nil)) (pa_cons (pe_lst (pa_cons (pe_tup (pa_cons pe_str (pa_cons pe_int pa_nil))) pa_nil)) pa_nil)))))))
    (pss_one (ps_ret (pe_ix ix_list (pe_op op_cat (pv 2) (pe_lst (pa_cons (pe_lst (pa_cons (pe_lst (pa_cons pe_str (pa_cons pe_non pa_nil))) pa_nil)) pa_nil))) (pe_callH G_law_draw (hr.mono (by omega)) (by rfl) (pa_cons (pv 0) (pa_cons pe_int pa_nil))) (fun _ _ => rfl))))))), ?_⟩
    refine lit_set (d := .lst [.non, .int 0, .str "a", .dic, .lst [.non], .lst [.tup [.str "a", .int 0]], .lst [.tup [.str "a", .int ((10 : Int) ^ ((30 : Int).toNat) + 1)]], .lst [.tup [.str "a", .bl true]], .lst [.tup [.str "a", .str "1"]], .lst [.tup [.str "A", .int 1]]]) (lit_lst (lits_cons lit_non (lits_cons lit_int (lits_cons lit_str (lits_cons lit_dic (lits_cons (lit_lst (lits_cons lit_non lits_nil) (Nat.le_of_ble_eq_true rfl)) (lits_cons (lit_lst (lits_cons (lit_tup (lits_cons lit_str (lits_cons lit_int lits_nil)) (Nat.le_of_ble_eq_true rfl)) lits_nil) (Nat.le_of_ble_eq_true rfl)) (lits_cons (lit_lst (lits_cons (lit_tup (lits_cons lit_str (lits_cons (lit_val (v := .int ((10 : Int) ^ ((30 : Int).toNat) + 1)) (fun H Q q => ⟨_, _, rfl, rfl, ⟨by decide, by decide, by decide⟩, _, _, rfl, rfl, q⟩) (fun H => .int _)) lits_nil)) (Nat.le_of_ble_eq_true rfl)) lits_nil) (Nat.le_of_ble_eq_true rfl)) (lits_cons (lit_lst (lits_cons (lit_tup (lits_cons lit_str (lits_cons lit_bl lits_nil)) (Nat.le_of_ble_eq_true rfl)) lits_nil) (Nat.le_of_ble_eq_true rfl)) (lits_cons (lit_lst (lits_cons (lit_tup (lits_cons lit_str (lits_cons lit_str lits_nil)) (Nat.le_of_ble_eq_true rfl)) lits_nil) (Nat.le_of_ble_eq_true rfl)) (lits_cons (lit_lst (lits_cons (lit_tup (lits_cons lit_str (lits_cons lit_int lits_nil)) (Nat.le_of_ble_eq_true rfl)) lits_nil) (Nat.le_of_ble_eq_true rfl)) lits_nil)))))))))) (Nat.le_of_ble_eq_true rfl)) (fun H1 v1 s1 r1 => ?_)
    refine lit_set (lit_cat (lit_var rfl r1) (lit_lst (lits_cons (lit_lst (lits_cons (lit_tup (lits_cons lit_str (lits_cons lit_int lits_nil)) (Nat.le_of_ble_eq_true rfl)) lits_nil) (Nat.le_of_ble_eq_true rfl)) (lits_cons (lit_lst (lits_cons (lit_tup (lits_cons lit_str (lits_cons lit_int lits_nil)) (Nat.le_of_ble_eq_true rfl)) lits_nil) (Nat.le_of_ble_eq_true rfl)) (lits_cons (lit_lst (lits_cons (lit_tup (lits_cons lit_str (lits_cons lit_int lits_nil)) (Nat.le_of_ble_eq_true rfl)) (lits_cons (lit_tup (lits_cons lit_str (lits_cons lit_int lits_nil)) (Nat.le_of_ble_eq_true rfl)) lits_nil)) (Nat.le_of_ble_eq_true rfl)) (lits_cons (lit_lst (lits_cons (lit_tup (lits_cons lit_str lits_nil) (Nat.le_of_ble_eq_true rfl)) lits_nil) (Nat.le_of_ble_eq_true rfl)) (lits_cons (lit_lst (lits_cons (lit_tup (lits_cons lit_str (lits_cons lit_int (lits_cons lit_int lits_nil))) (Nat.le_of_ble_eq_true rfl)) lits_nil) (Nat.le_of_ble_eq_true rfl)) (lits_cons (lit_tup (lits_cons lit_str (lits_cons lit_int lits_nil)) (Nat.le_of_ble_eq_true rfl)) (lits_cons lit_bl (lits_cons (lit_lst (lits_cons (lit_tup lits_nil (Nat.le_of_ble_eq_true rfl)) lits_nil) (Nat.le_of_ble_eq_true rfl)) lits_nil)))))))) (Nat.le_of_ble_eq_true rfl)) (Nat.le_of_ble_eq_true rfl)) (fun H2 v2 s2 r2 => ?_)
    refine lit_set (lit_cat (lit_var rfl r2) (lit_lst (lits_cons (lit_cat (lit_rep (lit_lst (lits_cons (lit_tup (lits_cons lit_str (lits_cons lit_int lits_nil)) (Nat.le_of_ble_eq_true rfl)) (lits_cons (lit_tup (lits_cons lit_str (lits_cons lit_int lits_nil)) (Nat.le_of_ble_eq_true rfl)) lits_nil)) (Nat.le_of_ble_eq_true rfl)) (by decide) (by decide) (Nat.le_of_ble_eq_true rfl)) (lit_lst (lits_cons (lit_tup (lits_cons lit_str (lits_cons lit_int lits_nil)) (Nat.le_of_ble_eq_true rfl)) lits_nil) (Nat.le_of_ble_eq_true rfl)) (Nat.le_of_ble_eq_true rfl)) (lits_cons (lit_cat (lit_var rfl (hA.same (s1.trans s2))) (lit_lst (lits_cons (lit_tup (lits_cons lit_str (lits_cons (lit_val (v := .int (-1)) (fun H Q q => ⟨1, rfl, q⟩) (fun H => .int _)) lits_nil)) (Nat.le_of_ble_eq_true rfl)) lits_nil) (Nat.le_of_ble_eq_true rfl)) (by show X.length + 1 ≤ 1000; omega)) (lits_cons (lit_lst (lits_cons (lit_tup (lits_cons lit_int (lits_cons lit_int lits_nil)) (Nat.le_of_ble_eq_true rfl)) lits_nil) (Nat.le_of_ble_eq_true rfl)) (lits_cons (lit_lst (lits_cons (lit_tup (lits_cons lit_str (lits_cons lit_int lits_nil)) (Nat.le_of_ble_eq_true rfl)) lits_nil) (Nat.le_of_ble_eq_true rfl)) lits_nil)))) (Nat.le_of_ble_eq_true rfl)) (Nat.le_of_ble_eq_true rfl)) (fun H3 v3 s3 r3 => ?_)
    refine lit_retIx (lit_cat (lit_var rfl r3) (lit_lst (lits_cons (lit_lst (lits_cons (lit_lst (lits_cons lit_str (lits_cons lit_non lits_nil)) (Nat.le_of_ble_eq_true rfl)) lits_nil) (Nat.le_of_ble_eq_true rfl)) lits_nil) (Nat.le_of_ble_eq_true rfl)) (Nat.le_of_ble_eq_true rfl)) (fun H4 v4 s4 r4 => ?_)
    have s04 := s1.trans (s2.trans (s3.trans s4))
    refine ⟨_, rfl, sp, 23, rfl, hz.same s04, by decide, by decide, fun H5 r b5 z5 r0 r1' => ?_⟩
    have c4 : (Dat.lst (noSeq X)).calm = true := by
      rw [Dat.calm, cr]
      rfl
    have r5 := Rp.butS (hz.same s04) b5 r4 c4
    have i23 : r.toNat < (noSeq X).length := by
      show r.toNat < 23
      omega
    obtain ⟨p, xs, x, rfl, hxs, ex, hx⟩ := rp_at r5 r0 i23
    exact ⟨p, xs, r, x, rfl, rfl, .of hxs, ex, q H5 x _ ((sb s04).trans b5) z5 (List.getElem_mem i23) hx⟩
end
end UP

set_option Elab.async false
set_option linter.all false
set_option maxRecDepth 100000
set_option maxHeartbeats 4000000
namespace UP
open PySem PySem.Spec PyProof.Rows L2
/-! ### repr of values that hold an empty dict -/
mutual
def Dat.py : Dat → PyData
  | .non => .none
  | .bl b => .bool b
  | .int n => .int n
  | .str z => .str z
  | .dic => .dict []
  | .lst l => .list (Dat.pys l)
  | .tup l => .tuple (Dat.pys l)
def Dat.pys : List Dat → List PyData
  | [] => []
  | x :: t => x.py :: Dat.pys t
end
def RpK (prog : Program) (w : World) (h : Heap) (u : Value) (d : PyData) : Prop :=
  (∃ as, Reads h u d as) ∧ (d.showable = true → d.shown.length ≤ sizeLine → ∃ bs, ReadAtMost h d.depth bs ∧ ReprK prog w bs h d.depth u d.shown)
def RpKs (prog : Program) (w : World) (h : Heap) (us : List Value) (ds : List PyData) : Prop :=
  (∃ as, ReadsAll h us ds as) ∧ (PyData.showableAll ds = true → (∀ t ∈ PyData.shownAll ds, t.length ≤ sizeLine) → ∃ bs, ReadAtMost h (PyData.depthAll ds) bs ∧ ReprAllK prog w bs h (PyData.depthAll ds) us (PyData.shownAll ds))
theorem dic_reads {X : Cx} {pins : List (Addr × Obj)} {σ : L2.St} {H : Hp} {s : Shared} {a : Addr} (I : Inv X pins σ H s) (e : H a = some (.dK [])) : ∃ o n, s.heap.get? a = some o ∧ o.cls = .type "dict" ∧ o.data = .dict #[] n ∧ (a == sysModules) = false := by
  obtain ⟨_, hs, vs, kv, o, es, ep, ho, ex, hd, _, hp, _⟩ := dk_of I.hok e
  cases kv
  obtain ⟨l⟩ := es
  have hp : Pairs (mixKind X.prog X.w) l [] := hp
  cases l with
  | nil => exact ⟨o, ep, ho, ex.1, hd, hs⟩
  | cons x t => cases hp
theorem RpKs.cons {prog : Program} {w : World} {h : Heap} {u : Value} {us : List Value} {d : PyData} {ds : List PyData} (h1 : RpK prog w h u d) (h2 : RpKs prog w h us ds) : RpKs prog w h (u :: us) (d :: ds) := by
  obtain ⟨⟨as, r⟩, k1⟩ := h1
  obtain ⟨⟨bs, rs⟩, k2⟩ := h2
  refine ⟨⟨_, .cons r rs⟩, fun hs hz => ?_⟩
  have hs' : d.showable = true ∧ PyData.showableAll ds = true := by simpa [PyData.showableAll] using hs
  obtain ⟨b1, hb1, k1⟩ := k1 hs'.1 (hz _ (by simp only [PyData.shownAll]; exact List.mem_cons_self ..))
  obtain ⟨b2, hb2, k2⟩ := k2 hs'.2 (fun t ht => hz t (by simp only [PyData.shownAll]; exact List.mem_cons_of_mem _ ht))
  refine ⟨b1 ++ b2, ?_, ?_⟩
  · simp only [PyData.depthAll]
    exact (hb1.mono (Nat.le_max_left _ _)).append (hb2.mono (Nat.le_max_right _ _))
  · simp only [PyData.depthAll, PyData.shownAll]
    exact .cons ((k1.more fun b hb => List.mem_append_left _ hb).level_le (Nat.le_max_left _ _)) (k2.more_le (fun b hb => List.mem_append_right _ hb) (Nat.le_max_right _ _))
theorem RpK.list {prog : Program} {w : World} {h : Heap} {a : Addr} {o : Obj} {its : List Value} {n : Nat} {ds : List PyData} (h1 : h.get? a = some o) (h2 : o.cls = .type "list") (h3 : o.data = .seq its.toArray n) (k : RpKs prog w h its ds) : RpK prog w h (.ref a) (.list ds) := by
  obtain ⟨⟨as, h4⟩, k⟩ := k
  have r : Reads h (.ref a) (.list ds) _ := .list h1 h2 h3 h4
  refine ⟨⟨_, r⟩, fun hs hz => ?_⟩
  have hz' : (listText (PyData.shownAll ds)).length ≤ sizeLine := by simpa only [PyData.shown] using hz
  obtain ⟨bs, hb, hk⟩ := k (by simpa [PyData.showable] using hs) (fun t ht => Nat.le_trans (listText_mem_le ht) hz')
  have hna : a ∉ bs := not_mem_of_deeper r (by simp only [PyData.depth]; omega) hb
  refine ⟨a :: bs, ReadAtMost.cons r (by simp only [PyData.depth]; omega) hb, ?_⟩
  simp only [PyData.depth, PyData.shown]
  cases its with
  | nil =>
    have h4' : ReadsAll h [] ds _ := h4
    cases h4'
    simp only [PyData.shownAll, listText_nil]
    exact ReprK.listEmpty h1 h2 h3
  | cons x l => exact ReprK.list h1 h2 h3 hna (by simpa using hk.length_eq) (fun i y e => hk.item i y (by simpa using e))
theorem RpK.tuple {prog : Program} {w : World} {h : Heap} {a : Addr} {o : Obj} {its : List Value} {n : Nat} {ds : List PyData} (h1 : h.get? a = some o) (h2 : o.cls = .type "tuple") (h3 : o.data = .seq its.toArray n) (k : RpKs prog w h its ds) : RpK prog w h (.ref a) (.tuple ds) := by
  obtain ⟨⟨as, h4⟩, k⟩ := k
  have r : Reads h (.ref a) (.tuple ds) _ := .tuple h1 h2 h3 h4
  refine ⟨⟨_, r⟩, fun hs hz => ?_⟩
  have hz' : (tupleText (PyData.shownAll ds)).length ≤ sizeLine := by simpa only [PyData.shown] using hz
  obtain ⟨bs, hb, hk⟩ := k (by simpa [PyData.showable] using hs) (fun t ht => Nat.le_trans (tupleText_mem_le ht) hz')
  have hna : a ∉ bs := not_mem_of_deeper r (by simp only [PyData.depth]; omega) hb
  refine ⟨a :: bs, ReadAtMost.cons r (by simp only [PyData.depth]; omega) hb, ?_⟩
  simp only [PyData.depth, PyData.shown]
  exact ReprK.tuple h1 h2 h3 hna hk
theorem RpK.dict {prog : Program} {w : World} {h : Heap} {a : Addr} {o : Obj} {n : Nat} (h1 : h.get? a = some o) (h2 : o.cls = .type "dict") (h3 : o.data = .dict #[] n) (hs : (a == sysModules) = false) : RpK prog w h (.ref a) (.dict []) := by
  have r : Reads h (.ref a) (.dict []) _ := .dict h1 h2 h3 .nil .nil
  refine ⟨⟨_, r⟩, fun _ _ => ⟨[a], ?_, ?_⟩⟩
  · intro b hb
    rw [List.mem_singleton.mp hb]
    exact ⟨_, _, r, Nat.le_refl _⟩
  · exact ReprK.dict h1 h2 h3 hs (fun z => by cases z) .nil
theorem Rp.reprK {X : Cx} {pins : List (Addr × Obj)} {σ : L2.St} {H : Hp} {s : Shared} (I : Inv X pins σ H s) {v : V} {d : Dat} (h : Rp H v d) : ∀ u, RelV v u → RpK X.prog X.w s.heap u d.py := by
  refine Rp.rec (motive_1 := fun v d _ => ∀ u, RelV v u → RpK X.prog X.w s.heap u d.py) (motive_2 := fun xs l _ => ∀ us, Vals xs us → RpKs X.prog X.w s.heap us (Dat.pys l)) ?_ ?_ ?_ ?_ ?_ ?_ ?_ ?_ ?_ h
  · intro u r
    cases r
    exact ⟨⟨_, .none⟩, fun hs hz => ReprK.of_reads .none hs (fun z => by cases z) hz⟩
  · intro b u r
    cases r
    exact ⟨⟨_, .bool b⟩, fun hs hz => ReprK.of_reads (.bool b) hs (fun z => by cases z) hz⟩
  · intro n u r
    obtain ⟨t, rfl⟩ := r
    exact ⟨⟨_, .int n t⟩, fun hs hz => ReprK.of_reads (.int n t) hs (fun z => by cases z) hz⟩
  · intro n u r
    obtain ⟨t, rfl⟩ := r
    exact ⟨⟨_, .str n t⟩, fun hs hz => ReprK.of_reads (.str n t) hs (fun z => by cases z) hz⟩
  · intro a e u r
    cases r
    obtain ⟨o, n, h1, h2, h3, h4⟩ := dic_reads I e
    exact RpK.dict h1 h2 h3 h4
  · intro a xs l e _ ih u r
    cases r
    obtain ⟨its, rv, ⟨o, n, ho, hc, _, hd⟩, _⟩ := I.list (SqL.of e)
    exact RpK.list ho hc hd (ih its rv)
  · intro a xs l e _ ih u r
    cases r
    obtain ⟨its, rv, ⟨o, ho, hc, n, hd⟩, _⟩ := I.tuple (SqT.of e)
    exact RpK.tuple ho hc hd (ih its rv)
  · intro us r
    cases r
    exact ⟨⟨_, .nil⟩, fun _ _ => ⟨[], (fun _ h => nomatch h), by simp only [Dat.pys, PyData.shownAll]; exact .nil⟩⟩
  · intro x y xs ys _ _ h1 h2 us r
    cases r with
    | cons r1 r2 => exact RpKs.cons (h1 _ r1) (h2 _ r2)
/-- repr(xs), xs a list or a tuple of such values -/
def rReprR : List V → Hp → VK → Prop := fun xs H Q => ∃ (a : Addr) (d : Dat), xs = [.ref a] ∧ Rp H (.ref a) d ∧ d.py.showable = true ∧ d.py.depth ≤ 64 ∧ d.py.shown.length ≤ sizeLine ∧ Q (.str d.py.shown) H
theorem call_reprR {X : Cx} (hg : X.A.guards = some []) (hu : X.A.units + 70 < cLine) : CallR X (.builtin "repr") rReprR := by
  intro pins s σ H xs us Q I r h
  obtain ⟨a, d, rfl, hr, sh, dp, sz, q⟩ := h
  obtain ⟨u, rfl, ru⟩ := vals1 r
  cases (show u = Value.ref a from ru)
  have fin : ∀ h' u tk, (∀ b o, s.heap.get? b = some o → h'.get? b = some o) → EP X pins σ Q (.str d.py.shown u) { s with heap := h', toks := tk } := fun h' u tk hk => ⟨.str d.py.shown, H, I.kept (t' := tk) hk, ⟨u, rfl⟩, q⟩
  cases hr with
  | dic e =>
    obtain ⟨o, n, h1, h2, h3, h4⟩ := dic_reads I e
    have rd : Reads s.heap (.ref a) (.dict []) _ := .dict h1 h2 h3 .nil .nil
    exact repr_of_reads' rd sh (fun _ z => by
      have z : sysModules ∈ [a] := z
      rw [List.mem_singleton.mp z] at h4
      simp at h4) hg (by show X.A.units + ((PyData.dict []).depth + 1) < cLine; have : (PyData.dict []).depth ≤ 64 := dp; omega) (fun _ _ e => e) fin sz
  | @lst _ xs l e hp =>
    obtain ⟨its, rv, ⟨o, n, ho, hc, _, hd⟩, _⟩ := I.list (SqL.of e)
    have all : ∀ {xs : List V} {l : List Dat}, Paired (Rp H) xs l → ∀ us, Vals xs us → RpKs X.prog X.w s.heap us (Dat.pys l) := by
      intro xs l hp
      induction hp with
      | nil =>
        intro us r
        cases r
        exact ⟨⟨_, .nil⟩, fun _ _ => ⟨[], (fun _ h => nomatch h), by simp only [Dat.pys, PyData.shownAll]; exact .nil⟩⟩
      | cons h1 _ ih =>
        intro us r
        cases r with
        | cons r1 r2 => exact RpKs.cons (h1.reprK I _ r1) (ih _ r2)
    have k := all hp its rv
    obtain ⟨⟨as, h4⟩, k⟩ := k
    have sz' : (listText (PyData.shownAll (Dat.pys l))).length ≤ sizeLine := by simpa only [Dat.py, PyData.shown] using sz
    obtain ⟨bs, hb, hk⟩ := k (by simpa [Dat.py, PyData.showable] using sh) (fun t ht => Nat.le_trans (listText_mem_le ht) sz')
    have r : Reads s.heap (.ref a) (.list (Dat.pys l)) _ := .list ho hc hd h4
    have hna : a ∉ bs := not_mem_of_deeper r (by simp only [PyData.depth]; omega) hb
    have dp' : PyData.depthAll (Dat.pys l) + 1 ≤ 64 := by simpa only [Dat.py, PyData.depth] using dp
    simp only [Dat.py, PyData.shown] at fin
    refine call_repr_slot (by omega) ⟨o, ho, hc⟩ F.slot_list_repr.toG ?_
    cases its with
    | nil =>
      have h4' : ReadsAll s.heap [] (Dat.pys l) _ := h4
      cases hl : Dat.pys l with
      | nil =>
        rw [hl] at fin
        simp only [PyData.shownAll, listText_nil] at fin
        exact call_list_repr_empty ⟨o, ho, hc⟩ ho hd ⟨_, _, rfl, fin s.heap _ _ fun _ _ e => e⟩
      | cons x t =>
        rw [hl] at h4'
        cases h4'
    | cons x t =>
      exact call_list_reprK ho hc hd hna (by simpa using hk.length_eq) (fun i y e => hk.item i y (by simpa using e)) (g := []) hg (fun b _ => Clear.nil b) (by show X.A.units + 1 + _ < cLine; omega) (fun _ _ e => e) (fun h' u tk hk => ⟨_, _, rfl, fin h' u tk hk⟩) sz'
  | @tup _ xs l e hp =>
    obtain ⟨its, rv, ⟨o, ho, hc, n, hd⟩, _⟩ := I.tuple (SqT.of e)
    have all : ∀ {xs : List V} {l : List Dat}, Paired (Rp H) xs l → ∀ us, Vals xs us → RpKs X.prog X.w s.heap us (Dat.pys l) := by
      intro xs l hp
      induction hp with
      | nil =>
        intro us r
        cases r
        exact ⟨⟨_, .nil⟩, fun _ _ => ⟨[], (fun _ h => nomatch h), by simp only [Dat.pys, PyData.shownAll]; exact .nil⟩⟩
      | cons h1 _ ih =>
        intro us r
        cases r with
        | cons r1 r2 => exact RpKs.cons (h1.reprK I _ r1) (ih _ r2)
    have k := all hp its rv
    obtain ⟨⟨as, h4⟩, k⟩ := k
    have sz' : (tupleText (PyData.shownAll (Dat.pys l))).length ≤ sizeLine := by simpa only [Dat.py, PyData.shown] using sz
    obtain ⟨bs, hb, hk⟩ := k (by simpa [Dat.py, PyData.showable] using sh) (fun t ht => Nat.le_trans (tupleText_mem_le ht) sz')
    have r : Reads s.heap (.ref a) (.tuple (Dat.pys l)) _ := .tuple ho hc hd h4
    have hna : a ∉ bs := not_mem_of_deeper r (by simp only [PyData.depth]; omega) hb
    have dp' : PyData.depthAll (Dat.pys l) + 1 ≤ 64 := by simpa only [Dat.py, PyData.depth] using dp
    simp only [Dat.py, PyData.shown] at fin
    refine call_repr_slot (by omega) ⟨o, ho, hc⟩ F.slot_tuple_repr ?_
    exact call_tuple_reprK ho hc hd hna hk (g := []) hg (fun b _ => Clear.nil b) (by show X.A.units + 1 + _ < cLine; omega) (fun _ _ e => e) (fun h' u tk hk => ⟨_, _, rfl, fin h' u tk hk⟩) sz'
end UP

set_option Elab.async false
set_option linter.all false
set_option maxRecDepth 100000
set_option maxHeartbeats 4000000
set_option pp.maxSteps 600
namespace UP
open PySem PySem.Spec PyProof.Rows L2
/-! ### good values: no dict, short leaves, no list of three numbers -/
mutual
def Dat.g : Dat → Bool
  | .dic => false
  | .int n => decide (n.natAbs < 10 ^ 60)
  | .str z => decide (z.length ≤ 9) && PyData.strOk z
  | .lst l => (!Dat.three l) && Dat.gs l
  | .tup l => Dat.gs l
  | .non => true
  | .bl _ => true
def Dat.gs : List Dat → Bool
  | [] => true
  | x :: t => x.g && Dat.gs t
end
mutual
def Dat.cnt : Dat → Nat
  | .lst l => Dat.cnts l + 1
  | .tup l => Dat.cnts l + 1
  | .non => 1
  | .bl _ => 1
  | .int _ => 1
  | .str _ => 1
  | .dic => 1
def Dat.cnts : List Dat → Nat
  | [] => 0
  | x :: t => x.cnt + Dat.cnts t
end
mutual
def Dat.dep : Dat → Nat
  | .lst l => Dat.deps l + 1
  | .tup l => Dat.deps l + 1
  | .non => 0
  | .bl _ => 0
  | .int _ => 0
  | .str _ => 0
  | .dic => 0
def Dat.deps : List Dat → Nat
  | [] => 0
  | x :: t => max x.dep (Dat.deps t)
end
theorem gs_mem : ∀ {l : List Dat}, Dat.gs l = true → ∀ e ∈ l, e.g = true
  | x :: t, h, e, he => by
    rw [Dat.gs, Bool.and_eq_true] at h
    rcases List.mem_cons.mp he with z | z
    · rw [z]
      exact h.1
    · exact gs_mem h.2 e z
theorem gs_of : ∀ {l : List Dat}, (∀ e ∈ l, e.g = true) → Dat.gs l = true
  | [], _ => rfl
  | x :: t, h => by
    rw [Dat.gs, h x (List.mem_cons_self ..), gs_of fun e he => h e (List.mem_cons_of_mem _ he)]
    rfl
theorem cnt_pos (d : Dat) : 1 ≤ d.cnt := by
  cases d <;> rw [Dat.cnt] <;> omega
theorem cnts_mem : ∀ {l : List Dat}, ∀ e ∈ l, e.cnt ≤ Dat.cnts l
  | x :: t, e, he => by
    rw [Dat.cnts]
    rcases List.mem_cons.mp he with z | z
    · rw [z]
      omega
    · have := cnts_mem e z
      omega
theorem cnts_len : ∀ (l : List Dat), l.length ≤ Dat.cnts l
  | [] => Nat.le_refl _
  | x :: t => by
    rw [Dat.cnts, List.length_cons]
    have := cnt_pos x
    have := cnts_len t
    omega
theorem deps_mem : ∀ {l : List Dat}, ∀ e ∈ l, e.dep ≤ Dat.deps l
  | x :: t, e, he => by
    rw [Dat.deps]
    rcases List.mem_cons.mp he with z | z
    · rw [z]
      omega
    · have := deps_mem e z
      omega
theorem parts_cnt {d : Dat} {l : List Dat} (h : d.parts = some l) : d.cnt = Dat.cnts l + 1 ∧ d.dep = Dat.deps l + 1 ∧ (d.g = true → Dat.gs l = true) := by
  cases d with
  | lst q =>
    cases h
    rw [Dat.cnt, Dat.dep, Dat.g, Bool.and_eq_true]
    exact ⟨rfl, rfl, fun z => z.2⟩
  | tup q =>
    cases h
    rw [Dat.cnt, Dat.dep, Dat.g]
    exact ⟨rfl, rfl, fun z => z⟩
  | _ => cases h
theorem nice_g (n : Int) (h : n.natAbs < 10 ^ 60) : (PyData.int n).showable = true ∧ (PyData.int n).leavesShort 100 = true := ⟨(nice_int h).sho, (nice_int h).lea⟩
theorem g_all (d : Dat) : d.g = true → d.py.showable = true ∧ d.py.leavesShort 100 = true ∧ d.py.canLay0 = true ∧ d.py.depth = d.dep ∧ d.py.shown.length + 2 ≤ 103 * d.cnt := by
  refine Dat.rec (motive_1 := fun d => d.g = true → d.py.showable = true ∧ d.py.leavesShort 100 = true ∧ d.py.canLay0 = true ∧ d.py.depth = d.dep ∧ d.py.shown.length + 2 ≤ 103 * d.cnt)
    (motive_2 := fun l => Dat.gs l = true → PyData.showableAll (Dat.pys l) = true ∧ PyData.leavesShortAll 100 (Dat.pys l) = true ∧ PyData.canLayAll0 (Dat.pys l) = true ∧ PyData.depthAll (Dat.pys l) = Dat.deps l ∧ ((PyData.shownAll (Dat.pys l)).map (·.length)).sum + 2 * l.length ≤ 103 * Dat.cnts l ∧ (PyData.shownAll (Dat.pys l)).length = l.length) ?_ ?_ ?_ ?_ ?_ ?_ ?_ ?_ ?_ d
  · intro _
    exact ⟨rfl, rfl, rfl, rfl, by decide +kernel⟩
  · intro b _
    cases b <;> exact ⟨rfl, rfl, rfl, rfl, by decide +kernel⟩
  · intro n h
    rw [Dat.g] at h
    have h := nice_g n (of_decide_eq_true h)
    rw [Dat.py, Dat.cnt, Dat.dep]
    refine ⟨h.1, h.2, by rw [PyData.canLay0], by rw [PyData.depth], ?_⟩
    have h2 := h.2
    rw [PyData.leavesShort] at h2
    have h2 : (PyData.shown (.int n)).length ≤ 100 := of_decide_eq_true h2
    omega
  · intro z h
    rw [Dat.g, Bool.and_eq_true] at h
    have h1 : z.length ≤ 9 := of_decide_eq_true h.1
    have ls : (PyData.str z).leavesShort 100 = true := by
      rw [PyData.leavesShort]
      have h2 := h.2
      unfold PyData.strOk at h2
      rw [Array.all_eq_true_iff_forall_mem] at h2
      rw [List.all_eq_true]
      intro c hc
      have := of_decide_eq_true (h2 c (Array.mem_def.mpr hc))
      exact decide_eq_true (by omega)
    rw [Dat.py, Dat.cnt, Dat.dep]
    refine ⟨by rw [PyData.showable], ls, by rw [PyData.canLay0]; exact h.2, by rw [PyData.depth], ?_⟩
    have hx : ∀ c ∈ z.cps.toList, c < 16 ^ 8 := by simpa only [PyData.leavesShort, List.all_eq_true, decide_eq_true_eq] using ls
    have e := StrLaws.reprText_len z hx
    have e2 : z.length = z.cps.size := rfl
    rw [PyData.shown]
    omega
  · intro h
    cases h
  · intro l ih h
    rw [Dat.g, Bool.and_eq_true] at h
    obtain ⟨a, b, c, e, f, k⟩ := ih h.2
    rw [Dat.py, Dat.cnt, Dat.dep, PyData.showable, PyData.leavesShort, PyData.canLay0, PyData.depth, PyData.shown]
    have := listText_len_le (PyData.shownAll (Dat.pys l))
    exact ⟨a, b, c, by omega, by omega⟩
  · intro l ih h
    rw [Dat.g] at h
    obtain ⟨a, b, c, e, f, k⟩ := ih h
    rw [Dat.py, Dat.cnt, Dat.dep, PyData.showable, PyData.leavesShort, PyData.canLay0, PyData.depth, PyData.shown]
    have := tupleText_len_le (PyData.shownAll (Dat.pys l))
    exact ⟨a, b, c, by omega, by omega⟩
  · intro _
    rw [Dat.pys]
    exact ⟨by rw [PyData.showableAll], by rw [PyData.leavesShortAll], by rw [PyData.canLayAll0], by rw [PyData.depthAll, Dat.deps], by rw [PyData.shownAll]; exact Nat.zero_le _, by rw [PyData.shownAll]; rfl⟩
  · intro x t h1 h2 h
    rw [Dat.gs, Bool.and_eq_true] at h
    obtain ⟨a, b, c, e, f⟩ := h1 h.1
    obtain ⟨a', b', c', e', f', k'⟩ := h2 h.2
    rw [Dat.pys, PyData.showableAll, PyData.leavesShortAll, PyData.canLayAll0, PyData.depthAll, PyData.shownAll, Dat.deps, Dat.cnts, a, b, c, a', b', c', e, e']
    refine ⟨rfl, rfl, rfl, rfl, ?_, by rw [List.length_cons, List.length_cons, k']⟩
    rw [List.map_cons, List.sum_cons, List.length_cons]
    omega
end UP

set_option Elab.async false
set_option linter.all false
set_option maxRecDepth 100000
set_option maxHeartbeats 4000000
set_option pp.maxSteps 600
namespace UP
open PySem PySem.Spec PyProof.Rows L2
theorem call_isiK {X : Cx} {K : PySem.W.Frag} (h : X.K = K) : CallR X (.builtin "isinstance") (rIsi K) := h ▸ call_isi
/-- a value that is asked about -/
def Vg (d : Dat) : Prop := d = .dic ∨ (d.g = true ∧ d.dep ≤ 4 ∧ d.cnt ≤ 5000)
def lowB (c : Nat) : Bool := decide (97 ≤ c ∧ c ≤ 122)
theorem az_mem (c : Nat) : decide (c ∈ ("abcdefghijklmnopqrstuvwxyz" : Str).cps.toList) = lowB c := by
  have e : ("abcdefghijklmnopqrstuvwxyz" : Str).cps.toList = [97, 98, 99, 100, 101, 102, 103, 104, 105, 106, 107, 108, 109, 110, 111, 112, 113, 114, 115, 116, 117, 118, 119, 120, 121, 122] := by decide +kernel
  rw [e]
  refine decide_eq_decide.mpr ⟨fun h => ?_, fun h => ?_⟩
  · simp only [List.mem_cons, List.not_mem_nil, or_false] at h
    omega
  · simp only [List.mem_cons, List.not_mem_nil, or_false]
    omega
def sgn (c : Nat) : Str := ⟨#[c]⟩
theorem dp_sgs {K : PySem.W.Frag} {H : Hp} : ∀ cs : List Nat, DpAll K H (cs.map fun c => V.str (sgn c)) (cs.map fun c => PyData.str (sgn c))
  | [] => .nil
  | c :: t => .cons (.str _) (dp_sgs t)
theorem shaped_sgs {cs : List Nat} (h : ∀ c ∈ cs, c < 0x110000) : SeqAt.shaped (.list (cs.map fun c => PyData.str (sgn c))) = true := by
  have gen : ∀ cs : List Nat, (∀ c ∈ cs, c < 0x110000) → PyData.canLayAll0 (cs.map fun c => PyData.str (sgn c)) = true ∧ PyData.depthAll (cs.map fun c => PyData.str (sgn c)) = 0 := by
    intro cs
    induction cs with
    | nil =>
      intro _
      exact ⟨by rw [List.map_nil, PyData.canLayAll0], by rw [List.map_nil, PyData.depthAll]⟩
    | cons c t ih =>
      intro h
      obtain ⟨h1, h2⟩ := ih fun x hx => h x (List.mem_cons_of_mem _ hx)
      have hc := h c (List.mem_cons_self ..)
      rw [List.map_cons, PyData.canLayAll0, PyData.depthAll, h1, h2, PyData.canLay0, PyData.depth]
      refine ⟨?_, rfl⟩
      have : PyData.strOk (sgn c) = true := by
        unfold PyData.strOk sgn
        simp [hc]
      rw [this]
      rfl
  obtain ⟨h1, h2⟩ := gen cs h
  unfold SeqAt.shaped
  rw [PyData.canLay0, PyData.depth, h1, h2]
  rfl
theorem eqv_nilD {ds : List PyData} : PyData.eqv (.list ds) (.list []) = ds.isEmpty := by
  rw [PyData.eqv]
  cases ds with
  | nil => rw [PyData.eqvAll]; rfl
  | cons x t => rw [PyData.eqvAll]; rfl
theorem filter_empty (l : List Nat) : ((l.filter fun c => !lowB c).map fun c => PyData.str (sgn c)).isEmpty = l.all lowB := by
  induction l with
  | nil => rfl
  | cons c t ih =>
    rw [List.filter_cons, List.all_cons]
    cases h : lowB c with
    | true =>
      show ((t.filter fun c => !lowB c).map _).isEmpty = _
      rw [ih, Bool.true_and]
    | false => rfl
theorem g_fit {d : Dat} (h : d.g = true) : d.fit := by
  cases d with
  | str z =>
    rw [Dat.g, Bool.and_eq_true] at h
    have : z.length ≤ 9 := of_decide_eq_true h.1
    show z.length ≤ 4000
    omega
  | _ => exact True.intro
theorem g_chs {z : Str} (h : (Dat.str z).g = true) : ∀ c ∈ z.cps.toList, c < 0x110000 := by
  rw [Dat.g, Bool.and_eq_true] at h
  have h2 := h.2
  unfold PyData.strOk at h2
  rw [Array.all_eq_true_iff_forall_mem] at h2
  exact fun c hc => of_decide_eq_true (h2 c (Array.mem_def.mpr hc))
def Dat.prB (m : Int) (d : Dat) : Bool := match d.two with
  | some (x, y) => x.kind && y.inI 1 m
  | none => false
section
variable {P : Program} {w : World} {K : PySem.W.Frag} {mg : Str → Option Value} {base : Heap}
/-! _law_is_name: slots 0:value 1:sign -/
abbrev s_law_is_name : Stmt := topS 21
theorem sc_law_is_name : FnScope ["value", "sign"] ["value"] (defScope s_law_is_name) := ⟨rfl, rfl, rfl, by decide +kernel, rfl, by decide +kernel, by decide +kernel⟩
def sp_law_is_name : Sp := fun vs H Q _ => ∃ (v : V) (d : Dat), vs = [v] ∧ Rp H v d ∧ d.g = true ∧ ∀ H', Same H H' → Q (.bl d.kind) H'
theorem ok_law_is_name (D : Df K mg "_law_is_name" s_law_is_name) (T : Tx mg) : Has P w K mg base 1 "_law_is_name" ["value"] sp_law_is_name := by
  refine has_of D sc_law_is_name (fun _ _ _ _ _ _ us hl => match us, hl with | [_], _ => rfl) (fun vs H Q E h => ?_) (fun f cdv A outer s H vs Q E hr h => ?_)
  · obtain ⟨v, d, rfl, _⟩ := h
    rfl
  · obtain ⟨v, d, rfl, hv, gd, q⟩ := h
    refine ⟨_, (pss_cons (ps_if (PW.pt (pw_or (pt_not (pt_val (pe_callB call_isi (by rfl) T.n_isinstance (by decide +kernel) (pa_cons (pv 0) (pa_cons (pe_bltn (v := .ty "str") (by rfl) T.n_str (by decide +kernel) rfl) pa_nil))))) (pw_or1 (pt_not (pt_chain op_le op_le pe_int (pe_callB call_len_str (by rfl) T.n_len (by decide +kernel) (pa_cons (pv 0) pa_nil)) pe_int))))) (pss_one (ps_ret pe_bl)) pss_nil)
    (pss_one (ps_ret (pe_cmpR (op_eqD hr.units) (pe_lc (own := [("sign", 1)]) rfl sc_law_is_name.nd (pi_str (pv 0)) (blkOk_by (N := ["value", "sign"]) (sc := defScope s_law_is_name) (by decide +kernel)) (fun _ _ _ _ _ => (pg_name (i := 1) sc_law_is_name.nd rfl (by first | exact Or.inl rfl | exact Or.inr rfl))) (fun _ _ _ _ _ => pts_one (pt_cmpR op_notInS (pv 1) pe_str (by with_unfolding_all rfl))) (fun _ _ _ _ _ => (pv 1))) (pe_lst pa_nil) (nomark _))))), ?_⟩
    by_cases hn : ∀ z, d ≠ .str z
    · obtain ⟨t, h1, h2⟩ := kitS (K := K) hv hn
      have e : d.kind = false := by
        cases d with
        | str z => exact absurd rfl (hn z)
        | _ => rfl
      rw [e] at q
      exact ⟨_, rfl, _, _, _, _, false, rfl, .ty "str", h1, h2, false, rfl, iteT (q H (Same.refl H))⟩
    have hn : ∃ z, d = .str z := by
      apply Classical.byContradiction
      intro c
      exact hn fun z e => c ⟨z, e⟩
    obtain ⟨z, rfl⟩ := hn
    have chs := g_chs gd
    cases hv
    have fit : z.length ≤ 4000 := g_fit gd
    refine ⟨_, rfl, _, _, _, _, true, rfl, .ty "str", .base (.str z), kit_ty (by decide +kernel), true, rfl, iteF ?_⟩
    have no : ¬ (1 ≤ (z.length : Int) ∧ (z.length : Int) ≤ 8) → (Dat.str z).kind = false := fun c => by
      show (decide _ && _) = false
      rw [decide_eq_false c]
      rfl
    refine ⟨_, rfl, z, rfl, smallE (by omega), _, _, rfl, rfl, _, rfl, ?_⟩
    by_cases c1 : (1 : Int) ≤ (z.length : Int)
    · refine iteP (decide_eq_true c1) ⟨_, _, rfl, rfl, _, rfl, ?_⟩
      by_cases c2 : (z.length : Int) ≤ 8
      · refine iteN ?_ ?_
        · show (!decide ((z.length : Int) ≤ 8)) = false
          rw [decide_eq_true c2]
          rfl
        refine ⟨_, rfl, z, rfl, fun L nL => lc_gen (n := z.cps.size) (fun i H' => Same H H' ∧ H' L = some (.lst (((z.cps.toList.take i).filter fun c => !lowB c).map fun c => V.str (sgn c)))) ⟨same_upd nL, upd_same⟩ (fun i H' hi _ => hi) (fun H' _ => Nat.le_refl _) (fun i x H1 H2 hi p y => ?_) (fun H' p => ?_)⟩
        · obtain ⟨rfl, c, ec, rfl⟩ := y
          obtain ⟨sm, hL⟩ := p
          have ec' : z.cps.toList[i]? = some c := by
            rw [Array.getElem?_toList]
            exact ec
          have ef : (z.cps.toList.take (i + 1)).filter (fun c => !lowB c) = (z.cps.toList.take i).filter (fun c => !lowB c) ++ [c].filter (fun c => !lowB c) := by rw [take_snoc ec', List.filter_append]
          refine ⟨rfl, _, rfl, c, _, rfl, rfl, _, rfl, ?_⟩
          rw [az_mem]
          cases hc : lowB c with
          | true =>
            refine iteF ⟨sm, ?_⟩
            rw [ef, List.filter_cons, hc]
            show _ = some (HO.lst ((_ ++ []).map _))
            rw [List.append_nil]
            exact hL
          | false =>
            refine iteT ⟨_, rfl, _, hL, ?_, same_grow nL sm, ?_⟩
            · have h1 : ((z.cps.toList.take i).filter fun c => !lowB c).length ≤ (z.cps.toList.take i).length := List.length_filter_le _ _
              have h2 : (z.cps.toList.take i).length ≤ z.cps.toList.length := by rw [List.length_take]; exact Nat.min_le_right _ _
              have h3 : z.cps.toList.length = z.length := Array.length_toList
              rw [List.length_map]
              exact small (by omega)
            · rw [upd_same, ef, List.filter_cons, hc, List.map_append]
              rfl
        · obtain ⟨sm, hL⟩ := p
          rw [List.take_of_length_le (by rw [Array.length_toList]; exact Nat.le_refl _)] at hL
          refine ⟨Nat.zero_le _, fun e ne => ?_⟩
          have se := same_upd (o := .lst []) ne
          refine ⟨.list ((z.cps.toList.filter fun c => !lowB c).map fun c => PyData.str (sgn c)), .list ((([] : List Nat)).map fun c => PyData.str (sgn c)), .lst (.of (se _ _ hL)) (dp_sgs _), .lst (.of upd_same) .nil, shaped_sgs (fun c hc => chs c (List.mem_filter.mp hc).1), shaped_sgs (fun c hc => by cases hc), ?_⟩
          rw [show PyData.eqv (.list ((z.cps.toList.filter fun c => !lowB c).map fun c => PyData.str (sgn c))) (.list ((([] : List Nat)).map fun c => PyData.str (sgn c))) = _ from eqv_nilD, filter_empty]
          have e : z.cps.toList.all lowB = (Dat.str z).kind := by
            show _ = (decide _ && _)
            rw [decide_eq_true ⟨c1, c2⟩]
            rfl
          rw [e]
          exact q _ (sm.trans se)
      · refine iteP ?_ ?_
        · show (!decide ((z.length : Int) ≤ 8)) = true
          rw [decide_eq_false c2]
          rfl
        rw [no fun k => c2 k.2] at q
        exact q H (Same.refl H)
    · rw [no fun k => c1 k.1] at q
      exact iteN (decide_eq_false c1) ⟨_, rfl, iteT (q H (Same.refl H))⟩
/-! _law_is_pair: slots 0:value 1:most -/
abbrev s_law_is_pair : Stmt := topS 22
theorem sc_law_is_pair : FnScope ["value", "most"] ["value", "most"] (defScope s_law_is_pair) := ⟨rfl, rfl, rfl, by decide +kernel, rfl, by decide +kernel, by decide +kernel⟩
def sp_law_is_pair : Sp := fun vs H Q _ => ∃ (v : V) (d : Dat) (m : Int), vs = [v, .int m] ∧ Rp H v d ∧ Vg d ∧ ∀ H', Same H H' → Q (.bl (d.prB m)) H'
theorem ok_law_is_pair (D : Df K mg "_law_is_pair" s_law_is_pair) (T : Tx mg) (G_law_is_name : Has P w K mg base 1 "_law_is_name" ["value"] sp_law_is_name) : Has P w K mg base 2 "_law_is_pair" ["value", "most"] sp_law_is_pair := by
  refine has_of D sc_law_is_pair (fun _ _ _ _ _ _ us hl => match us, hl with | [_, _], _ => rfl) (fun vs H Q E h => ?_) (fun f cdv A outer s H vs Q E hr h => ?_)
  · obtain ⟨v, d, m, rfl, _⟩ := h
    rfl
  · obtain ⟨v, d, m, rfl, hv, vg, q⟩ := h
    refine ⟨_, (pss_cons (ps_if (PW.pt (pw_or (pt_not (pt_val (pe_callB call_isiT (by rfl) T.n_isinstance (by decide +kernel) (pa_cons (pv 0) (pa_cons (pe_tup (pa_cons (pe_bltn (v := .ty "list") (by rfl) T.n_list (by decide +kernel) rfl) (pa_cons (pe_bltn (v := .ty "tuple") (by rfl) T.n_tuple (by decide +kernel) rfl) pa_nil))) pa_nil))))) (pw_or (pt_cmpR op_ne (pe_callB call_len_seq (by rfl) T.n_len (by decide +kernel) (pa_cons (pv 0) pa_nil)) pe_int (nomark _)) (pw_or1 (pt_not (pt_val (pe_callH G_law_is_name (hr.mono (by omega)) (by rfl) (pa_cons (pe_ix ix_seq (pv 0) pe_int (fun _ _ => rfl)) pa_nil)))))))) (pss_one (ps_ret pe_bl)) pss_nil)
    (pss_one (ps_ret (pe_and (pe_callB call_isi (by rfl) T.n_isinstance (by decide +kernel) (pa_cons (pe_ix ix_seq (pv 0) pe_int (fun _ _ => rfl)) (pa_cons (pe_bltn (v := .ty "int") (by rfl) T.n_int (by decide +kernel) rfl) pa_nil))) (pe_and (pe_not (pe_callB call_isi (by rfl) T.n_isinstance (by decide +kernel) (pa_cons (pe_ix ix_seq (pv 0) pe_int (fun _ _ => rfl)) (pa_cons (pe_bltn (v := .ty "bool") (by rfl) T.n_bool (by decide +kernel) rfl) pa_nil)))) (pe_one (pe_chain op_le op_le pe_int (pe_ix ix_seq (pv 0) pe_int (fun _ _ => rfl)) (pv 1)))))))), ?_⟩
    refine ⟨_, rfl, (by show 2 ≤ sizeLine; decide), fun t nt => ?_⟩
    have st := same_upd (o := .tup [.ty "list", .ty "tuple"]) nt
    have hv1 := hv.same st
    cases hd : d.parts with
    | none =>
      obtain ⟨tv, h1, h2⟩ := hv1.noSeq (K := K) hd
      refine ⟨_, t, _, _, _, false, rfl, upd_same, .cons (.ty "list") (.cons (.ty "tuple") .nil), h1, h2, false, rfl, iteP rfl ?_⟩
      have := q _ st
      rw [show d.prB m = false by unfold Dat.prB Dat.two; rw [hd]] at this
      exact this
    | some l =>
      obtain ⟨a, xs, rfl, hx, hp⟩ := hv1.seq hd
      have lx : xs.length = l.length := Paired.len hp
      have isi : ∃ c, TyX K (upd H t (.tup [.ty "list", .ty "tuple"])) (.ref a) c ∧ PySem.W.kitAny K c [.type "list", .type "tuple"] = some true := hx.elim (fun z => ⟨_, .base (.lst z), kit_lst⟩) (fun z => ⟨_, .base (.tup z), kit_tup⟩)
      obtain ⟨tv, h1, h2⟩ := isi
      refine ⟨_, t, _, _, _, true, rfl, upd_same, .cons (.ty "list") (.cons (.ty "tuple") .nil), h1, h2, true, rfl, iteN rfl ?_⟩
      refine ⟨_, rfl, a, xs, rfl, hx.elim (fun z => .inl (.of z)) (fun z => .inr (.of z)), rfl, _, rfl, ?_⟩
      by_cases c2 : l.length = 2
      case neg =>
        refine iteP ?_ ?_
        · rw [decide_eq_false (fun z => c2 (by have := V.int.inj z; omega))]
          rfl
        · have := q _ st
          rw [show d.prB m = false by
            unfold Dat.prB Dat.two
            rw [hd]
            match l, c2 with
            | [], _ => rfl
            | [x], _ => rfl
            | [x, y], c2 => exact absurd rfl c2
            | x :: y :: z :: t, _ => rfl] at this
          exact this
      refine iteN ?_ ?_
      · rw [decide_eq_true (by rw [lx, c2]; rfl)]
        rfl
      obtain ⟨x, y, rfl⟩ : ∃ x y, l = [x, y] := by
        match l, c2 with
        | [x, y], _ => exact ⟨x, y, rfl⟩
      have gl : Dat.gs [x, y] = true := by
        rcases vg with rfl | ⟨g, _⟩
        · cases hd
        · exact (parts_cnt hd).2.2 g
      have ep : d.prB m = (x.kind && y.inI 1 m) := by
        unfold Dat.prB Dat.two
        rw [hd]
      cases hp with
      | @cons u1 _ _ _ r1 hp =>
        cases hp with
        | @cons u2 _ _ _ r2 hp =>
          cases hp
          refine ⟨_, rfl, ix0 hx ⟨u1, x, rfl, r1, gs_mem gl x (by simp), fun H2 s2 => ⟨_, rfl, ?_⟩⟩⟩
          have sA := st.trans s2
          cases ck : x.kind with
          | false =>
            refine iteP rfl ?_
            have := q _ sA
            rw [ep, ck, Bool.false_and] at this
            exact this
          | true =>
            refine iteN rfl ?_
            have q := q _ sA
            rw [ep, ck, Bool.true_and] at q
            have hx2 := hx.same s2
            have r2 := r2.same s2
            refine ⟨_, rfl, ix1 hx2 ?_⟩
            cases r2 with
            | int n =>
              refine ⟨_, _, _, _, true, rfl, .ty "int", .base (.int n), kit_ty (by decide +kernel), true, rfl, iteT ?_⟩
              refine ⟨_, rfl, ix1 hx2 ⟨_, _, _, _, false, rfl, .ty "bool", .base (.int n), kit_ty (by decide +kernel), false, rfl, true, rfl, iteT ?_⟩⟩
              refine ⟨_, rfl, ix1 hx2 ⟨_, _, rfl, rfl, _, rfl, ?_⟩⟩
              by_cases c1 : 1 ≤ n
              · refine iteP (decide_eq_true c1) ⟨_, rfl, _, _, rfl, rfl, ?_⟩
                rw [show (Dat.int n).inI 1 m = decide (n ≤ m) by show decide (1 ≤ n ∧ n ≤ m) = _; simp [c1]] at q
                exact q
              · refine iteN (decide_eq_false c1) ?_
                rw [show (Dat.int n).inI 1 m = false by show decide (1 ≤ n ∧ n ≤ m) = _; simp [c1]] at q
                exact q
            | bl b =>
              refine ⟨_, _, _, _, true, rfl, .ty "int", .base (.bl b), kit_ty (by decide +kernel), true, rfl, iteT ?_⟩
              exact ⟨_, rfl, ix1 hx2 ⟨_, _, _, _, true, rfl, .ty "bool", .base (.bl b), kit_ty (by decide +kernel), true, rfl, false, rfl, iteF q⟩⟩
            | non => exact ⟨_, _, _, _, false, rfl, .ty "int", .base .non, kit_ty (by decide +kernel), false, rfl, iteF q⟩
            | str z => exact ⟨_, _, _, _, false, rfl, .ty "int", .base (.str z), kit_ty (by decide +kernel), false, rfl, iteF q⟩
            | dic e => exact ⟨_, _, _, _, false, rfl, .ty "int", .base (.dK e), kit_ty (by decide +kernel), false, rfl, iteF q⟩
            | lst e h => exact ⟨_, _, _, _, false, rfl, .ty "int", .base (.lst e), kit_ty (by decide +kernel), false, rfl, iteF q⟩
            | tup e h => exact ⟨_, _, _, _, false, rfl, .ty "int", .base (.tup e), kit_ty (by decide +kernel), false, rfl, iteF q⟩
end
end UP

set_option Elab.async false
set_option linter.all false
set_option maxRecDepth 100000
set_option maxHeartbeats 4000000
set_option pp.maxSteps 600
namespace UP
open PySem PySem.Spec PyProof.Rows L2
def m30 : Int := (10 : Int) ^ ((30 : Int).toNat)
theorem m30_eq : m30 = 1000000000000000000000000000000 := by decide +kernel
theorem prB_run (e : Dat) : e.prB m30 = e.run := by
  unfold Dat.prB Dat.run
  rw [m30_eq]
  try rfl
theorem ixS {K : PySem.W.Frag} {H : Hp} {a : Addr} {xs : List V} {i : Int} {z : V} {Q : VK} (h : Sq2 H a xs) (e : atI xs i = some z) (q : Q z H) : rIx K (.ref a) (.int i) H Q :=
  h.elim (fun h => .inl ⟨a, xs, i, z, rfl, rfl, .of h, e, q⟩) (fun h => .inr (.inl ⟨a, xs, i, z, rfl, rfl, .of h, e, q⟩))
/-! ### data -/
theorem g_nodic {d : Dat} (h : d.g = true) : d ≠ .dic := fun e => by rw [e] at h; cases h
theorem Rp.dpg {K : PySem.W.Frag} {H : Hp} {v : V} {d : Dat} (h : Rp H v d) : d.g = true → Dp K H v d.py := by
  refine Rp.rec (motive_1 := fun v d _ => d.g = true → Dp K H v d.py) (motive_2 := fun xs l _ => Dat.gs l = true → DpAll K H xs (Dat.pys l)) ?_ ?_ ?_ ?_ ?_ ?_ ?_ ?_ ?_ h
  · intro _
    rw [Dat.py]
    exact .non
  · intro b _
    rw [Dat.py]
    exact .bl b
  · intro n _
    rw [Dat.py]
    exact .int n
  · intro z _
    rw [Dat.py]
    exact .str z
  · intro a e c
    cases c
  · intro a xs l e _ ih c
    rw [Dat.py]
    rw [Dat.g, Bool.and_eq_true] at c
    exact .lst (.of e) (ih c.2)
  · intro a xs l e _ ih c
    rw [Dat.py]
    rw [Dat.g] at c
    exact .tup (.of e) (ih c)
  · intro _
    rw [Dat.pys]
    exact .nil
  · intro x y xs ys _ _ h1 h2 c
    rw [Dat.gs, Bool.and_eq_true] at c
    rw [Dat.pys]
    exact .cons (h1 c.1) (h2 c.2)
theorem rps_dpg {K : PySem.W.Frag} {H : Hp} : ∀ {xs : List V} {l : List Dat}, Paired (Rp H) xs l → (∀ e ∈ l, e.g = true) → DpAll K H xs (Dat.pys l)
  | _, _, .nil, _ => by rw [Dat.pys]; exact .nil
  | _, _, .cons h t, c => by
    rw [Dat.pys]
    exact .cons (h.dpg (c _ (List.mem_cons_self ..))) (rps_dpg t fun e he => c e (List.mem_cons_of_mem _ he))
theorem can_pys : ∀ {l : List Dat}, (∀ e ∈ l, e.g = true ∧ e.dep ≤ 10) → PyData.canLayAll0 (Dat.pys l) = true ∧ PyData.depthAll (Dat.pys l) ≤ 10
  | [], _ => ⟨by rw [Dat.pys, PyData.canLayAll0], by rw [Dat.pys, PyData.depthAll]; exact Nat.zero_le _⟩
  | x :: t, h => by
    obtain ⟨h1, h2⟩ := can_pys fun e he => h e (List.mem_cons_of_mem _ he)
    have hx := h x (List.mem_cons_self ..)
    obtain ⟨_, _, c, e, _⟩ := g_all x hx.1
    rw [Dat.pys, PyData.canLayAll0, PyData.depthAll, c, h1, e]
    exact ⟨rfl, Nat.max_le.mpr ⟨hx.2, h2⟩⟩
theorem shaped_pys {l : List Dat} (h : ∀ e ∈ l, e.g = true ∧ e.dep ≤ 10) : SeqAt.shaped (.list (Dat.pys l)) = true := by
  obtain ⟨h1, h2⟩ := can_pys h
  unfold SeqAt.shaped
  rw [PyData.canLay0, PyData.depth, h1]
  exact decide_eq_true (by omega)
theorem pys_empty (l : List Dat) : (Dat.pys l).isEmpty = l.isEmpty := by
  cases l with
  | nil => rw [Dat.pys]; rfl
  | cons x t => rw [Dat.pys]; rfl
theorem dp_ints {K : PySem.W.Frag} {H : Hp} : ∀ ns : List Int, DpAll K H (ns.map V.int) (ns.map PyData.int)
  | [] => .nil
  | n :: t => .cons (.int n) (dp_ints t)
theorem shaped_ints (ns : List Int) : SeqAt.shaped (.list (ns.map PyData.int)) = true := by
  have gen : ∀ ns : List Int, PyData.canLayAll0 (ns.map PyData.int) = true ∧ PyData.depthAll (ns.map PyData.int) = 0 := by
    intro ns
    induction ns with
    | nil => exact ⟨by rw [List.map_nil, PyData.canLayAll0], by rw [List.map_nil, PyData.depthAll]⟩
    | cons n t ih =>
      rw [List.map_cons, PyData.canLayAll0, PyData.depthAll, ih.1, ih.2, PyData.canLay0, PyData.depth]
      exact ⟨rfl, rfl⟩
  obtain ⟨h1, h2⟩ := gen ns
  unfold SeqAt.shaped
  rw [PyData.canLay0, PyData.depth, h1, h2]
  rfl
theorem filter_all {α : Type} (p : α → Bool) : ∀ l : List α, (l.filter fun x => !p x).isEmpty = l.all p
  | [] => rfl
  | x :: t => by
    rw [List.filter_cons, List.all_cons]
    cases h : p x with
    | true =>
      show (t.filter fun x => !p x).isEmpty = _
      rw [filter_all p t, Bool.true_and]
    | false => rfl
theorem map_isE {α β : Type} (f : α → β) (l : List α) : (l.map f).isEmpty = l.isEmpty := by cases l <;> rfl
theorem vg_item {d e : Dat} {l : List Dat} (h : Vg d) (hd : d.parts = some l) (he : e ∈ l) : e.g = true ∧ e.dep ≤ 3 ∧ e.cnt ≤ 5000 := by
  rcases h with rfl | ⟨g, h1, h2⟩
  · cases hd
  · obtain ⟨c, p, gg⟩ := parts_cnt hd
    have := deps_mem e he
    have := cnts_mem e he
    exact ⟨gs_mem (gg g) e he, by omega, by omega⟩
section
variable {P : Program} {w : World} {K : PySem.W.Frag} {mg : Str → Option Value} {base : Heap}
/-! _law_due: slots 0:value 1:run 2:k -/
abbrev s_law_due : Stmt := topS 23
theorem sc_law_due : FnScope ["value", "run", "k"] ["value"] (defScope s_law_due) := ⟨rfl, rfl, rfl, by decide +kernel, rfl, by decide +kernel, by decide +kernel⟩
def sp_law_due : Sp := fun vs H Q _ => ∃ (v : V) (d : Dat), vs = [v] ∧ Rp H v d ∧ Vg d ∧ ∀ H', Same H H' → Q (.bl d.seq) H'
theorem ok_law_due (D : Df K mg "_law_due" s_law_due) (T : Tx mg) (G_law_is_pair : Has P w K mg base 2 "_law_is_pair" ["value", "most"] sp_law_is_pair) : Has P w K mg base 3 "_law_due" ["value"] sp_law_due := by
  refine has_of D sc_law_due (fun _ _ _ _ _ _ us hl => match us, hl with | [_], _ => rfl) (fun vs H Q E h => ?_) (fun f cdv A outer s H vs Q E hr h => ?_)
  · obtain ⟨v, d, rfl, _⟩ := h
    rfl
  · obtain ⟨v, d, rfl, hv, vg, q⟩ := h
    refine ⟨_, (pss_cons (ps_if (PW.pt (pw_or (pt_not (pt_val (pe_callB call_isiT (by rfl) T.n_isinstance (by decide +kernel) (pa_cons (pv 0) (pa_cons (pe_tup (pa_cons (pe_bltn (v := .ty "list") (by rfl) T.n_list (by decide +kernel) rfl) (pa_cons (pe_bltn (v := .ty "tuple") (by rfl) T.n_tuple (by decide +kernel) rfl) pa_nil))) pa_nil))))) (pw_or1 (pt_cmpR op_gt (pe_callB call_len_seq (by rfl) T.n_len (by decide +kernel) (pa_cons (pv 0) pa_nil)) pe_int (nomark _))))) (pss_one (ps_ret pe_bl)) pss_nil)
    (pss_cons (ps_if (pt_cmpR (op_neD hr.units) (pe_lc (own := [("run", 1)]) rfl sc_law_due.nd (pi_seqV 0) (blkOk_by (N := ["value", "run", "k"]) (sc := defScope s_law_due) (by decide +kernel)) (fun _ _ _ _ _ => (pg_name (i := 1) sc_law_due.nd rfl (by first | exact Or.inl rfl | exact Or.inr rfl))) (fun _ _ _ _ _ => pts_one (pt_not (pt_val (pe_callH G_law_is_pair (hr.mono (by omega)) (by rfl) (pa_cons (pv 1) (pa_cons (pe_op op_pow pe_int pe_int) pa_nil)))))) (fun _ _ _ _ _ => (pv 1))) (pe_lst pa_nil) (nomark _)) (pss_one (ps_ret pe_bl)) pss_nil)
    (pss_one (ps_ret (pe_cmpR (op_eqD hr.units) (pe_lc (own := [("k", 2)]) rfl sc_law_due.nd (pi_range2 (by rfl) T.n_range (pa_cons pe_int (pa_cons (pe_callB call_len_seq (by rfl) T.n_len (by decide +kernel) (pa_cons (pv 0) pa_nil)) pa_nil))) (blkOk_by (N := ["value", "run", "k"]) (sc := defScope s_law_due) (by decide +kernel)) (fun _ _ _ _ _ => (pg_name (i := 2) sc_law_due.nd rfl (by first | exact Or.inl rfl | exact Or.inr rfl))) (fun _ _ _ _ _ => pts_one (pt_cmpR op_eq (pe_ix (ix_seqK (K := K) rfl) (pe_ix (ix_seqK (K := K) rfl) (pv 0) (pv 2) (fun _ _ => rfl)) pe_int (fun _ _ => rfl)) (pe_ix (ix_seqK (K := K) rfl) (pe_ix (ix_seqK (K := K) rfl) (pv 0) (pe_op op_sub (pv 2) pe_int) (fun _ _ => rfl)) pe_int (fun _ _ => rfl)) (nomark _))) (fun _ _ _ _ _ => (pv 2))) (pe_lst pa_nil) (nomark _)))))), ?_⟩
    refine ⟨_, rfl, (by show 2 ≤ sizeLine; decide), fun t nt => ?_⟩
    have st := same_upd (o := .tup [.ty "list", .ty "tuple"]) nt
    have hv1 := hv.same st
    cases hd : d.parts with
    | none =>
      obtain ⟨tv, h1, h2⟩ := hv1.noSeq (K := K) hd
      refine ⟨_, t, _, _, _, false, rfl, upd_same, .cons (.ty "list") (.cons (.ty "tuple") .nil), h1, h2, false, rfl, iteP rfl ?_⟩
      have := q _ st
      rw [show d.seq = false by unfold Dat.seq; rw [hd]] at this
      exact this
    | some l =>
      have es : d.seq = (decide ((l.length : Int) ≤ 400) && (l.all Dat.run && ((List.range (l.length - 1)).map (stepB l)).all id)) := by unfold Dat.seq; rw [hd]
      have itm : ∀ e ∈ l, e.g = true ∧ e.dep ≤ 3 ∧ e.cnt ≤ 5000 := fun e he => vg_item vg hd he
      obtain ⟨a, xs, rfl, hx, hp⟩ := hv1.seq hd
      have lx : xs.length = l.length := Paired.len hp
      have isi : ∃ c, TyX K (upd H t (.tup [.ty "list", .ty "tuple"])) (.ref a) c ∧ PySem.W.kitAny K c [.type "list", .type "tuple"] = some true := hx.elim (fun z => ⟨_, .base (.lst z), kit_lst⟩) (fun z => ⟨_, .base (.tup z), kit_tup⟩)
      obtain ⟨tv, h1, h2⟩ := isi
      refine ⟨_, t, _, _, _, true, rfl, upd_same, .cons (.ty "list") (.cons (.ty "tuple") .nil), h1, h2, true, rfl, iteN rfl ?_⟩
      have q : ∀ H', Same (upd H t (.tup [.ty "list", .ty "tuple"])) H' → Q (.bl d.seq) H' := fun H' s => q _ (st.trans s)
      clear hv hv1 h1 h2 tv st
      generalize upd H t (.tup [.ty "list", .ty "tuple"]) = H1 at *
      refine ⟨_, rfl, a, xs, rfl, hx.elim (fun z => .inl (.of z)) (fun z => .inr (.of z)), _, _, rfl, rfl, _, rfl, ?_⟩
      by_cases c4 : (400 : Int) < (xs.length : Int)
      · refine iteP (decide_eq_true c4) ?_
        have := q _ (Same.refl _)
        rw [es, decide_eq_false (by omega), Bool.false_and] at this
        exact this
      refine iteN (decide_eq_false c4) ?_
      rw [decide_eq_true (show (l.length : Int) ≤ 400 by omega), Bool.true_and] at es
      -- the rows
      refine ⟨a, xs, rfl, hx, fun J wk L nL => lc_wk wk (fun i H' => Same H1 H' ∧ ∃ ws, H' L = some (.lst ws) ∧ ws.length ≤ i ∧ Paired (Rp H1) ws ((l.take i).filter fun e => !e.prB m30)) (fun i H' p => p.1) ⟨same_upd nL, [], upd_same, Nat.le_refl _, .nil⟩ (fun i x H2 ex hP => ?_) (fun H2 hP => ?_)⟩
      · obtain ⟨sm, ws, hL, lw, hw⟩ := hP
        obtain ⟨e, er, hr1⟩ := Paired.at hp ex
        have hi : i < xs.length := (List.getElem?_eq_some_iff.mp ex).1
        obtain ⟨i1, i2, i3⟩ := itm e (List.mem_of_getElem? er)
        have ef : (l.take (i + 1)).filter (fun e => !e.prB m30) = (l.take i).filter (fun e => !e.prB m30) ++ [e].filter (fun e => !e.prB m30) := by rw [take_snoc er, List.filter_append]
        refine ⟨rfl, _, rfl, _, _, rfl, rfl, ⟨by decide, by decide, by decide⟩, x, e, m30, rfl, hr1.same sm, .inr ⟨i1, by omega, i3⟩, fun H3 s3 => ⟨_, rfl, ?_⟩⟩
        have hL3 := s3 _ _ hL
        cases eb : e.prB m30 with
        | true =>
          refine iteF ⟨sm.trans s3, ws, hL3, by omega, ?_⟩
          rw [ef, List.filter_cons, eb]
          show Paired _ ws (_ ++ [])
          rw [List.append_nil]
          exact hw
        | false =>
          refine iteT ⟨_, rfl, _, hL3, small (by omega), same_grow nL (sm.trans s3), _, upd_same, by rw [List.length_append, List.length_singleton]; omega, ?_⟩
          rw [ef, List.filter_cons, eb]
          exact Paired.app hw (.cons hr1 .nil)
      obtain ⟨s2, ws, hL, _, hw⟩ := hP
      rw [lx, List.take_length] at hw
      refine ⟨Nat.zero_le _, fun n1 nn1 => ?_⟩
      have sn := same_upd (o := .lst []) nn1
      refine ⟨.list (Dat.pys (l.filter fun e => !e.prB m30)), .list ((([] : List Int)).map PyData.int), .lst (.of (sn _ _ hL)) (rps_dpg (rps_same (s2.trans sn) hw) fun e he => (itm e (List.mem_filter.mp he).1).1), .lst (.of upd_same) .nil, shaped_pys (fun e he => ⟨(itm e (List.mem_filter.mp he).1).1, by have := (itm e (List.mem_filter.mp he).1).2.1; omega⟩), shaped_ints [], _, rfl, ?_⟩
      rw [show PyData.eqv (.list (Dat.pys (l.filter fun e => !e.prB m30))) (.list ((([] : List Int)).map PyData.int)) = _ from eqv_nilD, pys_empty, filter_all]
      have ea : l.all (fun e => e.prB m30) = l.all Dat.run := by
        rw [show (fun e : Dat => e.prB m30) = Dat.run from funext prB_run]
      rw [ea]
      cases ca : l.all Dat.run with
      | false =>
        refine iteP rfl ?_
        have := q _ (s2.trans sn)
        rw [es, ca, Bool.false_and] at this
        exact this
      | true =>
        refine iteN rfl ?_
        rw [ca, Bool.true_and] at es
        have s3 := s2.trans sn
        have hx3 := hx.same s3
        have hp3 := rps_same s3 hp
        have q : ∀ H', Same (upd H2 n1 (.lst [])) H' → Q (.bl d.seq) H' := fun H' s => q _ (s3.trans s)
        clear hw hL nn1 sn s2 hx hp
        generalize upd H2 n1 (.lst []) = H3 at *
        have row : ∀ {H' : Hp} {j : Nat}, Same H3 H' → j < l.length → ∃ b vs, xs[j]? = some (.ref b) ∧ Sq2 H' b vs ∧ vs[0]? = some (.str (keyAt l j)) := fun {H' j} s hj => by
          obtain ⟨e, ee⟩ : ∃ e, l[j]? = some e := ⟨_, List.getElem?_eq_getElem hj⟩
          obtain ⟨x, ex, hx⟩ := Paired.at' hp3 ee
          have re := List.all_eq_true.mp ca e (List.mem_of_getElem? ee)
          obtain ⟨z, y, e2, ek⟩ := run_two re
          obtain ⟨b, vx, vy, rfl, hs, h1, h2⟩ := (hx.same s).two e2
          cases h1
          refine ⟨b, _, ex, hs, ?_⟩
          unfold keyAt
          rw [ee]
          show some (V.str z) = some (V.str e.key)
          rw [ek]
        refine ⟨_, rfl, a, xs, rfl, hx3.elim (fun z => .inl (.of z)) (fun z => .inr (.of z)), 1, _, rfl, ⟨by decide, by decide, by omega, by omega⟩, fun M nM => lc_range (lo := 1) (n := _) (fun i H' => Same H3 H' ∧ H' M = some (.lst ((((List.range i).filter fun j => !stepB l j).map fun j : Nat => (1 : Int) + (j : Int)).map V.int))) ⟨same_upd nM, upd_same⟩ (fun i H4 hi hP => ?_) (fun H4 hP => ?_)⟩
        · obtain ⟨sm, hM⟩ := hP
          have hj : i + 1 < l.length := by omega
          obtain ⟨b1, v1, e1, g1, k1⟩ := row sm hj
          obtain ⟨b2, v2, e2, g2, k2⟩ := row sm (show i < l.length by omega)
          have hx4 := hx3.same sm
          have ef : (List.range (i + 1)).filter (fun j => !stepB l j) = (List.range i).filter (fun j => !stepB l j) ++ [i].filter (fun j => !stepB l j) := by rw [List.range_succ, List.filter_append]
          refine ⟨rfl, _, rfl, _, rfl, ixS hx4 (atI_of (by omega) (by rw [show (1 + (i : Int)).toNat = i + 1 by omega]; exact e1)) (ixS g1 (atI_of (by decide) k1) ?_)⟩
          refine ⟨_, rfl, _, rfl, _, _, rfl, rfl, ixS hx4 (atI_of (by omega) (by rw [show (1 + (i : Int) - 1).toNat = i by omega]; exact e2)) (ixS g2 (atI_of (by decide) k2) ⟨rfl, _, rfl, ?_⟩)⟩
          have eb : stepB l i = !decide (V.str (keyAt l (i + 1)) = V.str (keyAt l i)) := by
            unfold stepB
            congr 1
            exact decide_eq_decide.mpr ⟨Eq.symm, Eq.symm⟩
          cases hc : decide (V.str (keyAt l (i + 1)) = V.str (keyAt l i)) with
          | true =>
            rw [hc] at eb
            refine iteT ⟨_, rfl, _, hM, ?_, same_grow nM sm, ?_⟩
            · have h1 : ((List.range i).filter fun j => !stepB l j).length ≤ (List.range i).length := List.length_filter_le _ _
              rw [List.length_range] at h1
              rw [List.length_map, List.length_map]
              exact small (by omega)
            · rw [upd_same, ef, List.filter_cons, eb, List.map_append, List.map_append]
              rfl
          | false =>
            rw [hc] at eb
            refine iteF ⟨sm, ?_⟩
            rw [ef, List.filter_cons, eb]
            show _ = some (HO.lst (((_ ++ []).map _).map _))
            rw [List.append_nil]
            exact hM
        obtain ⟨sm, hM⟩ := hP
        refine ⟨Nat.zero_le _, fun n2 nn2 => ?_⟩
        have sn := same_upd (o := .lst []) nn2
        refine ⟨.list (_root_.List.map PyData.int _), .list ((([] : List Int)).map PyData.int), .lst (.of (sn _ _ hM)) (dp_ints _), .lst (.of upd_same) .nil, shaped_ints _, shaped_ints [], ?_⟩
        rw [show ∀ ns : List Int, PyData.eqv (.list (ns.map PyData.int)) (.list ((([] : List Int)).map PyData.int)) = ns.isEmpty from fun ns => (eqv_nilD (ds := ns.map PyData.int)).trans (map_isE _ _), map_isE, filter_all]
        have := q _ (sm.trans sn)
        rw [es, all_map] at this
        rw [show ((xs.length : Int) - 1).toNat = l.length - 1 by omega]
        exact this
end
end UP

set_option Elab.async false
set_option linter.all false
set_option maxRecDepth 100000
set_option maxHeartbeats 4000000
set_option pp.maxSteps 600
namespace UP
open PySem PySem.Spec PyProof.Rows L2
theorem all_at {z : Str} {p : Nat → Bool} (h : z.cps.toList.all p = true) {i c : Nat} (e : z.cps[i]? = some c) : p c = true := by
  refine List.all_eq_true.mp h c ?_
  have : z.cps.toList[i]? = some c := by
    rw [Array.getElem?_toList]
    exact e
  exact List.mem_of_getElem? this
theorem kind_bad {z : Str} {c : Nat} (hm : c ∈ z.cps.toList) (hb : lowB c = false) : kindB z = false := by
  have : (z.cps.toList.all fun c => decide (97 ≤ c ∧ c ≤ 122)) = false := by
    rw [List.all_eq_false]
    exact ⟨c, hm, by
      show ¬ lowB c = true
      rw [hb]
      decide⟩
  unfold kindB
  rw [this, Bool.and_false]
theorem seq_bad {n : Str} (h : kindB n = false) : (Dat.lst [.tup [.str n, .int 1]]).seq = false ∧ (Dat.tup [.str n, .int 1]).state = false := by
  have hk : (Dat.str n).kind = false := h
  have hr : (Dat.tup [.str n, .int 1]).run = false := by
    show ((Dat.str n).kind && (Dat.int 1).inI 1 1000000000000000000000000000000) = false
    rw [hk]
    rfl
  refine ⟨?_, ?_⟩
  · unfold Dat.seq
    show (decide _ && (([Dat.tup [.str n, .int 1]].all Dat.run) && _)) = false
    rw [show [Dat.tup [.str n, .int 1]].all Dat.run = false by rw [List.all_cons, hr]; rfl, Bool.false_and, Bool.and_false]
  · show ((Dat.str n).kind && (Dat.int 1).pos) = false
    rw [hk]
    rfl
theorem fit_two {n : Str} (h : n.length ≤ 4000) : (Dat.lst [.tup [.str n, .int 1]]).fits ∧ (Dat.tup [.str n, .int 1]).fit2 := by
  have f2 : (Dat.tup [.str n, .int 1]).fit2 := fun x y e => by
    cases e
    exact h
  refine ⟨fun l e => ?_, f2⟩
  cases e
  refine ⟨Nat.le_of_ble_eq_true rfl, fun x hx => ?_⟩
  rw [List.mem_singleton.mp hx]
  exact f2
section
variable {P : Program} {w : World} {K : PySem.W.Frag} {mg : Str → Option Value} {base : Heap}
/-! _law_names_right: slots 0:others 1:sign 2:name -/
abbrev s_law_names_right : Stmt := topS 25
theorem sc_law_names_right : FnScope ["others", "sign", "name"] [] (defScope s_law_names_right) := ⟨rfl, rfl, rfl, by decide +kernel, rfl, by decide +kernel, by decide +kernel⟩
def sp_law_names_right : Sp := fun vs H Q _ => vs = [] ∧ ∀ H', Q (.bl true) H'
theorem ok_law_names_right (D : Df K mg "_law_names_right" s_law_names_right) (T : Tx mg) (G_is_kind : Has P w K mg base 1 "is_kind" ["value"] spD_is_kind) (G_is_sequence : Has P w K mg base 4 "is_sequence" ["value"] spD_is_sequence) (G_is_state : Has P w K mg base 2 "is_state" ["value"] spD_is_state) : Has P w K mg base 5 "_law_names_right" [] sp_law_names_right := by
  refine has_of D sc_law_names_right (fun _ _ _ _ _ _ us hl => match us, hl with | [], _ => rfl) (fun vs H Q E h => ?_) (fun f cdv A outer s H vs Q E hr h => ?_)
  · obtain ⟨rfl, _⟩ := h
    rfl
  · obtain ⟨rfl, q⟩ := h
    refine ⟨_, (pss_cons (ps_set (i := 0) sc_law_names_right.nd rfl (by first | exact Or.inl rfl | exact Or.inr rfl) pe_str)
    (pss_cons (ps_for PassesOwn.never rfl (pi_str (pv 0)) (pg_name (i := 1) sc_law_names_right.nd rfl (by first | exact Or.inl rfl | exact Or.inr rfl))
      (pss_one (ps_for PassesOwn.never rfl (pi_list (pe_lst (pa_cons (pv 1) (pa_cons (pe_op op_add_str pe_str (pv 1)) (pa_cons (pe_op op_add_str (pv 1) pe_str) pa_nil))))) (pg_name (i := 2) sc_law_names_right.nd rfl (by first | exact Or.inl rfl | exact Or.inr rfl))
      (pss_one (ps_if (pt_cmpR (op_neD hr.units) (pe_lst (pa_cons (pe_callH G_is_kind (hr.mono (by omega)) (by rfl) (pa_cons (pv 2) pa_nil)) (pa_cons (pe_callH G_is_sequence (hr.mono (by omega)) (by rfl) (pa_cons (pe_lst (pa_cons (pe_tup (pa_cons (pv 2) (pa_cons pe_int pa_nil))) pa_nil)) pa_nil)) (pa_cons (pe_callH G_is_state (hr.mono (by omega)) (by rfl) (pa_cons (pe_tup (pa_cons (pv 2) (pa_cons pe_int pa_nil))) pa_nil)) pa_nil)))) (pe_lst (pa_cons pe_bl (pa_cons pe_bl (pa_cons pe_bl pa_nil)))) (nomark _)) (pss_one (ps_ret pe_bl)) pss_nil)))))
    (pss_one (ps_ret (pe_cmpR (op_eqD hr.units) (pe_lc (own := [("sign", 1)]) rfl sc_law_names_right.nd (pi_str pe_str) (blkOk_by (N := ["others", "sign", "name"]) (sc := defScope s_law_names_right) (by decide +kernel)) (fun _ _ _ _ _ => (pg_name (i := 1) sc_law_names_right.nd rfl (by first | exact Or.inl rfl | exact Or.inr rfl))) (fun _ _ _ _ _ => pts_one (pt_cmpR op_notBl (pe_callH G_is_kind (hr.mono (by omega)) (by rfl) (pa_cons (pe_op op_add_str (pv 1) pe_str) pa_nil)) pe_bl (nomark _))) (fun _ _ _ _ _ => (pv 1))) (pe_lst pa_nil) (nomark _)))))), ?_⟩
    have mem : ∀ {z : Str} {i c : Nat}, z.cps[i]? = some c → c ∈ z.cps.toList := fun {z i c} e => List.mem_of_getElem? (i := i) (by rw [Array.getElem?_toList]; exact e)
    refine ⟨_, rfl, _, rfl, for_gen (n := _) (fun i σ H' => ∃ y0 y1 y2, σ = [y0, y1, y2]) ⟨_, none, none, rfl⟩ (fun i σ H' hi _ => hi) (fun σ H' _ => Nat.le_refl _) (fun i x σ H1 H2 hi hP y => ?_) (fun σ H2 hP => ?_)⟩
    · obtain ⟨y0, y1, y2, rfl⟩ := hP
      obtain ⟨rfl, c, ec, rfl⟩ := y
      have hb : (!lowB c && decide (c < 1000)) = true := all_at (p := fun c => !lowB c && decide (c < 1000)) (by decide +kernel) ec
      rw [Bool.and_eq_true] at hb
      have hb : lowB c = false := by simpa using hb.1
      have l1 : (sgn c).length = 1 := rfl
      have la : ("a" : Str).length = 1 := by decide +kernel
      refine ⟨_, rfl, _, rfl, _, _, rfl, rfl, Nat.le_of_lt (small (by show 1 + 1 ≤ 1000000; decide)), _, rfl, _, _, rfl, rfl, Nat.le_of_lt (small (by show 1 + 1 ≤ 1000000; decide)), (by show 3 ≤ sizeLine; decide), fun L nL => ?_⟩
      have ma : c ∈ ("a" ++ sgn c : Str).cps.toList := by
        show c ∈ (("a" : Str).cps ++ #[c]).toList
        rw [Array.toList_append]
        exact List.mem_append.mpr (.inr (List.mem_singleton.mpr rfl))
      have mb : c ∈ (sgn c ++ "a" : Str).cps.toList := by
        show c ∈ (#[c] ++ ("a" : Str).cps).toList
        rw [Array.toList_append]
        exact List.mem_append.mpr (.inl (List.mem_singleton.mpr rfl))
      have names : ∀ {j : Nat} {x : V}, [V.str (sgn c), V.str ("a" ++ sgn c), V.str (sgn c ++ "a")][j]? = some x → ∃ n, x = .str n ∧ n.length ≤ 4000 ∧ kindB n = false := fun {j x} e => by
        match j, e with
        | 0, e => cases e; exact ⟨_, rfl, by rw [l1]; decide, kind_bad (List.mem_singleton.mpr rfl) hb⟩
        | 1, e => cases e; exact ⟨_, rfl, by rw [strLen_append, l1, la]; decide, kind_bad ma hb⟩
        | 2, e => cases e; exact ⟨_, rfl, by rw [strLen_append, l1, la]; decide, kind_bad mb hb⟩
      refine ⟨L, rfl, ⟨_, .of upd_same⟩, for_list (K := K) (a := L) (xs := [V.str (sgn c), V.str ("a" ++ sgn c), V.str (sgn c ++ "a")]) (fun j σ H' => ∃ y2, σ = [y0, some (.str (sgn c)), y2] ∧ H' L = some (.lst [V.str (sgn c), V.str ("a" ++ sgn c), V.str (sgn c ++ "a")])) ⟨_, rfl, upd_same⟩ (fun j σ H' _ hP => ?_) (fun j x σ H3 ex hP => ?_) (fun σ H3 hP => ?_)⟩
      · obtain ⟨_, _, h⟩ := hP
        exact .of h
      · obtain ⟨y2', rfl, hL⟩ := hP
        obtain ⟨n, rfl, ln, kn⟩ := names ex
        obtain ⟨f1, f2⟩ := fit_two ln
        obtain ⟨g1, g2⟩ := seq_bad kn
        refine ⟨_, rfl, _, .str n, rfl, .str n, ln, fun H4 s4 => ⟨_, rfl, (by show 2 ≤ sizeLine; decide), fun t nt => ⟨(by show 1 ≤ sizeLine; decide), fun l nl => ⟨.ref l, .lst [.tup [.str n, .int 1]], rfl, ?_, f1, fun H5 s5 => ⟨_, rfl, (by show 2 ≤ sizeLine; decide), fun t2 nt2 => ⟨.ref t2, .tup [.str n, .int 1], rfl, .tup upd_same (.cons (.str n) (.cons (.int 1) .nil)), f2, fun H6 s6 => ?_⟩⟩⟩⟩⟩⟩
        · exact .lst upd_same (.cons (.tup (same_upd nl _ _ upd_same) (.cons (.str n) (.cons (.int 1) .nil))) .nil)
        rw [g1, g2, show (Dat.str n).kind = false from kn]
        refine ⟨(by show 3 ≤ sizeLine; decide), fun l1 n1 => ⟨(by show 3 ≤ sizeLine; decide), fun l2 n2 => ?_⟩⟩
        have s2 := same_upd (o := .lst [.bl false, .bl false, .bl false]) n2
        refine ⟨.list [.bool false, .bool false, .bool false], .list [.bool false, .bool false, .bool false], .lst (.of (s2 _ _ upd_same)) (.cons (.bl _) (.cons (.bl _) (.cons (.bl _) .nil))), .lst (.of upd_same) (.cons (.bl _) (.cons (.bl _) (.cons (.bl _) .nil))), by decide, by decide, _, rfl, iteN (by decide) ?_⟩
        exact ⟨_, rfl, s2 _ _ (same_upd n1 _ _ (s6 _ _ (same_upd nt2 _ _ (s5 _ _ (same_upd nl _ _ (same_upd nt _ _ (s4 _ _ hL)))))))⟩
      · obtain ⟨y2', rfl, hL⟩ := hP
        exact ⟨_, _, _, rfl⟩
    · obtain ⟨y0, y1, y2, rfl⟩ := hP
      refine ⟨_, rfl, fun L nL => lc_gen (n := _) (fun i H' => H' L = some (.lst [])) upd_same (fun i H' hi _ => hi) (fun H' _ => Nat.le_refl _) (fun i x H1 H2 hi p y => ?_) (fun H' p => ?_)⟩
      · obtain ⟨rfl, c, ec, rfl⟩ := y
        have hk : kindB (sgn c ++ "zza") = true := all_at (p := fun c => kindB (sgn c ++ "zza")) (by decide +kernel) ec
        refine ⟨rfl, _, rfl, _, _, rfl, rfl, Nat.le_of_lt (small (by show 1 + 3 ≤ 1000000; decide)), _, .str (sgn c ++ "zza"), rfl, .str _, (by show (sgn c ++ "zza").length ≤ 4000; rw [strLen_append, show ("zza" : Str).length = 3 by decide +kernel]; show 1 + 3 ≤ 4000; decide), fun H3 s3 => ⟨true, true, congrArg V.bl hk, rfl, _, rfl, iteF (s3 _ _ p)⟩⟩
      · refine ⟨Nat.zero_le _, fun e ne => ?_⟩
        have se := same_upd (o := .lst []) ne
        refine ⟨.list ((([] : List Int)).map PyData.int), .list ((([] : List Int)).map PyData.int), .lst (.of (se _ _ p)) .nil, .lst (.of upd_same) .nil, shaped_ints [], shaped_ints [], ?_⟩
        rw [show PyData.eqv (.list ((([] : List Int)).map PyData.int)) (.list ((([] : List Int)).map PyData.int)) = true from eqv_nilD]
        exact q _
end
end UP

set_option Elab.async false
set_option linter.all false
set_option maxRecDepth 100000
set_option maxHeartbeats 4000000
set_option pp.maxSteps 600
namespace UP
open PySem PySem.Spec PyProof.Rows L2
/-! ### runs as lists of their own -/
def LRun (H : Hp) (v : V) (r : Run) : Prop := ∃ t, v = .ref t ∧ H t = some (.lst [.str r.1, .int r.2])
theorem LRun.same {H H' : Hp} {v : V} {r : Run} (s : Same H H') (h : LRun H v r) : LRun H' v r := by
  obtain ⟨t, e, h⟩ := h
  exact ⟨t, e, s _ _ h⟩
theorem LRun.dress {H : Hp} {v : V} {r : Run} (h : LRun H v r) : RunG H v r := by
  obtain ⟨t, e, h⟩ := h
  exact ⟨t, e, .inl h⟩
theorem LRun.grow {H : Hp} {D : Addr} {acc acc' : List V} {v : V} {r : Run} (hD : H D = some (.lst acc)) (ha : acc ≠ [.str r.1, .int r.2]) (h : LRun H v r) : LRun (upd H D (.lst acc')) v r := by
  obtain ⟨t, e, h⟩ := h
  refine ⟨t, e, ?_⟩
  rw [upd_ne (ne_of h hD (fun q => ha (HO.lst.inj q).symm))]
  exact h
theorem LRun.but {H H' : Hp} {sp : Addr} {v : V} {r : Run} (z : Spr H sp) (s : But sp H H') (h : LRun H v r) : LRun H' v r := by
  obtain ⟨t, e, h⟩ := h
  obtain ⟨_, _, _, hs, _⟩ := z
  exact ⟨t, e, s _ _ (ne_of h hs (by intro q; cases q)) h⟩
section
variable {σ : L2.St} {H0 : Hp}
theorem lit_neg {n : Int} : Lit σ H0 (tUn (rU fun i => V.int (-i)) (tC (V.int n))) (.int (-n)) := lit_val (v := .int (-n)) (fun H Q q => ⟨n, rfl, q⟩) (fun H => .int _)
theorem lit_pow {a b : Int} (h : CPow a b) : Lit σ H0 (tOp (rI CPow fun i j => V.int (i ^ j.toNat)) (tC (V.int a)) (tC (V.int b))) (.int (a ^ b.toNat)) := lit_val (v := .int (a ^ b.toNat)) (fun H Q q => ⟨_, _, rfl, rfl, h, q⟩) (fun H => .int _)
theorem lit_add {t u : TE} {a b : Int} (h1 : Lit σ H0 t (.int a)) (h2 : Lit σ H0 u (.int b)) : Lit σ H0 (tOp (rI0 fun i j => V.int (i + j)) t u) (.int (a + b)) := fun H Q s q => h1 H _ s fun H1 v s1 r1 => h2 H1 _ (s.trans s1) fun H2 w s2 r2 => by
  cases r1
  cases r2
  exact ⟨_, _, rfl, rfl, q _ _ (s1.trans s2) (.int _)⟩
end
/-! ### good values are calm -/
theorem g_calm (d : Dat) : d.g = true → d.calm = true := by
  refine Dat.rec (motive_1 := fun d => d.g = true → d.calm = true) (motive_2 := fun l => Dat.gs l = true → Dat.calms l = true) ?_ ?_ ?_ ?_ ?_ ?_ ?_ ?_ ?_ d
  · intro _; rfl
  · intro b _; rfl
  · intro n _; rfl
  · intro z _; rfl
  · intro h; cases h
  · intro l ih h
    rw [Dat.g, Bool.and_eq_true] at h
    rw [Dat.calm, h.1, ih h.2]
    rfl
  · intro l ih h
    rw [Dat.g] at h
    rw [Dat.calm]
    exact ih h
  · intro _; rfl
  · intro x t h1 h2 h
    rw [Dat.gs, Bool.and_eq_true] at h
    rw [Dat.calms, h1 h.1, h2 h.2]
    rfl
theorem vg_calm {d : Dat} (h : Vg d) : d.calm = true := by
  rcases h with rfl | ⟨g, _⟩
  · rfl
  · exact g_calm d g
theorem three_ofG {l : List Dat} (h : Dat.three l = true) : ∃ x y z, l = [.int x, .int y, .int z] := by
  unfold Dat.three at h
  split at h
  · exact ⟨_, _, _, rfl⟩
  · cases h
theorem not_threeG {l : List Dat} {e : Dat} (hm : e ∈ l) (he : e.isI = false) : Dat.three l = false := by
  cases h : Dat.three l with
  | false => rfl
  | true =>
    obtain ⟨x, y, z, rfl⟩ := three_ofG h
    simp only [List.mem_cons, List.not_mem_nil, or_false] at hm
    rcases hm with e | e | e <;> rw [e] at he <;> cases he
/-- rows, and what one of them becomes -/
def dRL (r : Run) : Dat := .lst [.str r.1, .int r.2]
theorem rows_rp {H : Hp} : ∀ {ys : List V} {rs : List Run}, Paired (LRun H) ys rs → Paired (Rp H) ys (rs.map dRL)
  | _, _, .nil => .nil
  | _, _, .cons h t => by
    obtain ⟨p, rfl, hp⟩ := h
    exact .cons (.lst hp (.cons (.str _) (.cons (.int _) .nil))) (rows_rp t)
theorem LRun.rp {H : Hp} {v : V} {r : Run} (h : LRun H v r) : Rp H v (dRL r) := by
  obtain ⟨p, rfl, hp⟩ := h
  exact .lst hp (.cons (.str _) (.cons (.int _) .nil))
theorem rows_set {H : Hp} {t : Addr} {u : HO} {e : Dat} (hu : Rp (upd H t u) (.ref t) e) : ∀ {ys : List V} {rs : List Run} {i : Nat}, ys.Nodup → Paired (LRun H) ys rs → ys[i]? = some (.ref t) → Paired (Rp (upd H t u)) ys ((rs.map dRL).set i e)
  | [], _, _, _, .nil, h => by simp at h
  | x :: w, r :: rs, 0, nd, .cons h p, ex => by
    have ex : x = .ref t := Option.some.inj ex
    subst ex
    have nd := List.nodup_cons.mp nd
    refine .cons hu ?_
    have keep : ∀ (w : List V) (rs : List Run), V.ref t ∉ w → Paired (LRun H) w rs → Paired (Rp (upd H t u)) w (rs.map dRL) := by
      intro w rs nw hp
      induction hp with
      | nil => exact .nil
      | cons h _ ih =>
        obtain ⟨t', rfl, h'⟩ := h
        have ne : t' ≠ t := fun z => nw (by rw [z]; exact List.mem_cons_self ..)
        refine .cons (.lst (by rw [upd_ne ne]; exact h') (.cons (.str _) (.cons (.int _) .nil))) (ih fun z => nw (List.mem_cons_of_mem _ z))
    exact keep w rs nd.1 p
  | x :: w, r :: rs, i + 1, nd, .cons h p, ex => by
    have ex : w[i]? = some (.ref t) := ex
    have nd := List.nodup_cons.mp nd
    obtain ⟨t', rfl, h'⟩ := h
    have ne : t' ≠ t := fun z => nd.1 (by rw [z]; exact List.mem_of_getElem? ex)
    exact .cons (.lst (by rw [upd_ne ne]; exact h') (.cons (.str _) (.cons (.int _) .nil))) (rows_set hu nd.2 p ex)
def odds : List Dat := [.int 0, .int (-1), .int 1, .int ((10 : Int) ^ ((30 : Int).toNat)), .int ((10 : Int) ^ ((30 : Int).toNat) + 1), .bl true, .non, .str "a", .str "A", .str "", .str "abcdefghi", .str "b", .lst [], .tup [.str "a", .int 1], .str "zz", .int 2]
theorem odds_ok : ∀ o ∈ odds, (o.g && decide (o.dep ≤ 1) && decide (o.cnt ≤ 3)) = true := by decide +kernel
theorem odds_calm : (Dat.lst odds).calm = true := by decide +kernel
/-- no list with items -/
def Dat.noL : Dat → Bool
  | .lst (_ :: _) => false
  | .tup l => l.all fun e => match e with
    | .lst _ => false
    | .tup _ => false
    | .dic => false
    | _ => true
  | .dic => false
  | _ => true
theorem odds_noL : ∀ o ∈ odds, o.noL = true := by decide +kernel
theorem noL_upd {H : Hp} {t : Addr} {ws : List V} {u : HO} {v : V} {o : Dat} (ht : H t = some (.lst ws)) (hw : ws ≠ []) (h : Rp H v o) (n : o.noL = true) : Rp (upd H t u) v o := by
  cases h with
  | non => exact .non
  | bl b => exact .bl b
  | int m => exact .int m
  | str z => exact .str z
  | dic e => cases n
  | @lst a xs l e p =>
    cases l with
    | nil =>
      cases p
      have ne : a ≠ t := fun z => by
        rw [z, ht] at e
        exact hw (HO.lst.inj (Option.some.inj e))
      exact .lst (by rw [upd_ne ne]; exact e) .nil
    | cons x y => cases n
  | @tup a xs l e p =>
    have ne : a ≠ t := fun z => by
      rw [z, ht] at e
      cases e
    refine .tup (by rw [upd_ne ne]; exact e) ?_
    have n : (l.all fun e => match e with
      | .lst _ => false
      | .tup _ => false
      | .dic => false
      | _ => true) = true := n
    clear e ne
    induction p with
    | nil => exact .nil
    | @cons x y _ _ h1 _ ih =>
      rw [List.all_cons, Bool.and_eq_true] at n
      refine .cons ?_ (ih n.2 n.2)
      cases h1 with
      | non => exact .non
      | bl b => exact .bl b
      | int m => exact .int m
      | str z => exact .str z
      | _ => cases n.1
theorem cnts_app : ∀ a b : List Dat, Dat.cnts (a ++ b) = Dat.cnts a + Dat.cnts b
  | [], b => by rw [List.nil_append]; simp [Dat.cnts]
  | x :: t, b => by
    rw [List.cons_append, Dat.cnts, Dat.cnts, cnts_app t b]
    omega
theorem cnts_le {m : Nat} : ∀ {l : List Dat}, (∀ e ∈ l, e.cnt ≤ m) → Dat.cnts l ≤ m * l.length
  | [], _ => Nat.zero_le _
  | x :: t, h => by
    have h1 := h x (List.mem_cons_self ..)
    have h2 := cnts_le fun e he => h e (List.mem_cons_of_mem _ he)
    rw [Dat.cnts, List.length_cons, Nat.mul_succ]
    omega
theorem deps_le {m : Nat} : ∀ {l : List Dat}, (∀ e ∈ l, e.dep ≤ m) → Dat.deps l ≤ m
  | [], _ => Nat.zero_le _
  | x :: t, h => by
    rw [Dat.deps]
    exact Nat.max_le.mpr ⟨h x (List.mem_cons_self ..), deps_le fun e he => h e (List.mem_cons_of_mem _ he)⟩
/-- a list of good rows -/
theorem vg_rows {l : List Dat} (h : ∀ e ∈ l, e.g = true ∧ e.dep ≤ 2 ∧ e.cnt ≤ 6) (hl : l.length ≤ 803) (h3 : Dat.three l = false) : Vg (.lst l) := by
  have c := cnts_le fun e he => (h e he).2.2
  have d := deps_le fun e he => (h e he).2.1
  refine .inr ⟨?_, ?_, ?_⟩
  · rw [Dat.g, h3, gs_of fun e he => (h e he).1]
    rfl
  · rw [Dat.dep]
    omega
  · rw [Dat.cnt]
    omega
theorem kind_g {z : Str} (h : KindOk z) : (Dat.str z).g = true := by
  rw [Dat.g, Bool.and_eq_true]
  exact ⟨decide_eq_true (by have := h.2.1; omega), h.str⟩
theorem row_g {r : Run} (h : KindOk r.1) (h2 : r.2.natAbs < 10 ^ 60) : (dRL r).g = true ∧ (dRL r).dep ≤ 2 ∧ (dRL r).cnt ≤ 6 ∧ (dRL r).isI = false := by
  refine ⟨?_, ?_, ?_, rfl⟩
  · show (Dat.lst [.str r.1, .int r.2]).g = true
    rw [Dat.g, Dat.gs, Dat.gs, Dat.gs, kind_g h, Dat.g, decide_eq_true h2]
    rfl
  · show (Dat.lst [.str r.1, .int r.2]).dep ≤ 2
    simp [Dat.dep, Dat.deps]
  · show (Dat.lst [.str r.1, .int r.2]).cnt ≤ 6
    simp [Dat.cnt, Dat.cnts]
end UP

set_option Elab.async false
set_option linter.all false
set_option maxRecDepth 100000
set_option maxHeartbeats 4000000
set_option pp.maxSteps 600
namespace UP
open PySem PySem.Spec PyProof.Rows L2
section
variable {P : Program} {w : World} {K : PySem.W.Frag} {mg : Str → Option Value} {base : Heap}
theorem upd_but {sp : Addr} {H H' : Hp} {t : Addr} {u : HO} (b : But sp H H') (n : H t = none) : But sp H (upd H' t u) := fun x o ne e => by
  have nx : x ≠ t := fun z => by rw [z, n] at e; cases e
  rw [upd_ne nx]
  exact b x o ne e
theorem newH_updE {H H' : Hp} {t : Addr} {u : HO} (n : H t = none) : newH H (upd H' t u) = upd (newH H H') t u := by
  funext b
  by_cases e : b = t
  · rw [e, newH_at n, upd_same, upd_same]
  · rw [upd_ne e]
    unfold newH
    rw [upd_ne e]
theorem newH_two {H H2 H' : Hp} (n : ∀ b, H2 b = none → H b = none) : Same (newH H2 H') (newH H H') := fun b o e => by
  cases h : H2 b with
  | none =>
    rw [newH_at h] at e
    rw [newH_at (n b h)]
    exact e
  | some o' => rw [newH_old h] at e; cases e
theorem but_none {H H2 : Hp} {sp : Addr} (z : Spr H2 sp) (b : But sp H H2) : ∀ x, H2 x = none → H x = none := fun x h => by
  cases e : H x with
  | none => rfl
  | some o =>
    have ne : x ≠ sp := fun q => by
      obtain ⟨_, _, _, hs, _⟩ := z
      rw [q, hs] at h
      cases h
    rw [b x o ne e] at h
    cases h
section
variable {σ : L2.St} {H0 Hs : Hp}
theorem litF_neg {n : Int} : LitF σ H0 Hs (tUn (rU fun i => V.int (-i)) (tC (V.int n))) (.int (-n)) := litF_val (v := .int (-n)) (fun H Q q => ⟨n, rfl, q⟩) (fun H => .int _)
theorem litF_pow {a b : Int} (h : CPow a b) : LitF σ H0 Hs (tOp (rI CPow fun i j => V.int (i ^ j.toNat)) (tC (V.int a)) (tC (V.int b))) (.int (a ^ b.toNat)) := litF_val (v := .int (a ^ b.toNat)) (fun H Q q => ⟨_, _, rfl, rfl, h, q⟩) (fun H => .int _)
theorem litF_powS {a b n : Int} (h : CPow a b) : LitF σ H0 Hs (tOp (rI0 fun i j => V.int (i + j)) (tOp (rI CPow fun i j => V.int (i ^ j.toNat)) (tC (V.int a)) (tC (V.int b))) (tC (V.int n))) (.int (a ^ b.toNat + n)) := litF_val (v := .int (a ^ b.toNat + n)) (fun H Q q => ⟨_, _, rfl, rfl, h, _, _, rfl, rfl, q⟩) (fun H => .int _)
end
/-! _law_changed: slots 0:spring 1:sequence 2:runs 3:at 4:odd 5:way 6:run -/
abbrev s_law_changed : Stmt := topS 24
theorem sc_law_changed : FnScope ["spring", "sequence", "runs", "at", "odd", "way", "run"] ["spring", "sequence"] (defScope s_law_changed) := ⟨rfl, rfl, rfl, by decide +kernel, rfl, by decide +kernel, by decide +kernel⟩
def sp_law_changed : Sp := fun vs H Q _ => ∃ (sp p : Addr) (rs : List Run), vs = [.ref sp, .ref p] ∧ Spr H sp ∧ Runs H p rs ∧ rs ≠ [] ∧ rs.length ≤ 400 ∧ (∀ r ∈ rs, KindOk r.1 ∧ r.2.natAbs < 10 ^ 60) ∧ ∀ H' v d, But sp H H' → Spr H' sp → Rp (newH H H') v d → Vg d → Q v H'
theorem ok_law_changed (D : Df K mg "_law_changed" s_law_changed) (T : Tx mg) (G_law_draw : Has P w K mg base 1 "_law_draw" ["spring", "many"] sp_law_draw) : Has P w K mg base 2 "_law_changed" ["spring", "sequence"] sp_law_changed := by
  refine has_of D sc_law_changed (fun _ _ _ _ _ _ us hl => match us, hl with | [_, _], _ => rfl) (fun vs H Q E h => ?_) (fun f cdv A outer s H vs Q E hr h => ?_)
  · obtain ⟨_, _, _, rfl, _⟩ := h
    rfl
  · obtain ⟨sp, p, rs, rfl, z0, ⟨xs, hx, hp⟩, r0, l4, okr, q⟩ := h
    have lx : xs.length = rs.length := Paired.len hp
    have lpos : 0 < rs.length := List.length_pos_iff.mpr r0
    refine ⟨_, (pss_cons (ps_setLc (i := 2) (own := [("run", 6)]) rfl sc_law_changed.nd rfl rfl (sw_true rfl rfl rfl (by decide +kernel)) (pi_list (pv 1)) (blkOk_by (N := ["spring", "sequence", "runs", "at", "odd", "way", "run"]) (sc := defScope s_law_changed) (by decide +kernel)) (fun _ _ _ _ _ => (pg_name (i := 6) sc_law_changed.nd rfl (by first | exact Or.inl rfl | exact Or.inr rfl))) (fun _ _ _ _ _ => pts_nil) (fun _ _ _ _ _ => (pe_callTy (call_list_ofK (K := K) rfl) (by rfl) T.n_list (by decide +kernel) (pa_cons (pv 6) pa_nil))))
    (pss_cons (ps_set (i := 3) sc_law_changed.nd rfl (by first | exact Or.inl rfl | exact Or.inr rfl) (pe_callH G_law_draw (hr.mono (by omega)) (by rfl) (pa_cons (pv 0) (pa_cons (pe_callB call_len_seq (by rfl) T.n_len (by decide +kernel) (pa_cons (pv 2) pa_nil)) pa_nil))))
    (pss_cons (ps_set (i := 4) sc_law_changed.nd rfl (by first | exact Or.inl rfl | exact Or.inr rfl) (pe_lst (pa_cons pe_int (pa_cons (pe_un un_neg pe_int) (pa_cons pe_int (pa_cons (pe_op op_pow pe_int pe_int) (pa_cons (pe_op op_add (pe_op op_pow pe_int pe_int) pe_int) (pa_cons pe_bl (pa_cons pe_non (pa_cons pe_str (pa_cons pe_str (pa_cons pe_str (pa_cons pe_str (pa_cons pe_str (pa_cons (pe_lst pa_nil) (pa_cons (pe_tup (pa_cons pe_str (pa_cons pe_int pa_nil))) (pa_cons pe_str (pa_cons pe_int pa_nil))))))))))))))))))
    (pss_cons (ps_set (i := 4) sc_law_changed.nd rfl (by first | exact Or.inl rfl | exact Or.inr rfl) (pe_ix ix_list (pv 4) (pe_callH G_law_draw (hr.mono (by omega)) (by rfl) (pa_cons (pv 0) (pa_cons pe_int pa_nil))) (fun _ _ => rfl)))
    (pss_cons (ps_set (i := 5) sc_law_changed.nd rfl (by first | exact Or.inl rfl | exact Or.inr rfl) (pe_callH G_law_draw (hr.mono (by omega)) (by rfl) (pa_cons (pv 0) (pa_cons pe_int pa_nil))))
    (pss_cons (ps_if (pt_cmpR op_lt (pv 5) pe_int (nomark _)) (pss_one (ps_asg (pv 4) (pg_sub (pe_ix ix_list (pv 2) (pv 3) (fun _ _ => rfl)) (pv 5) set_list))) (pss_one (ps_if (pt_cmpR op_eq (pv 5) pe_int (nomark _)) (pss_one (ps_expr (pe_bm PySem.F.plainAttrs_list PySem.F.slot_list_insert PySem.F.type_list_insert mt_insert (pv 2) (pa_cons (pv 3) (pa_cons (pv 4) pa_nil))))) (pss_one (ps_if (pt_cmpR op_eq (pv 5) pe_int (nomark _)) (pss_one (ps_expr (pe_bm PySem.F.plainAttrs_list PySem.F.slot_list_append PySem.F.type_list_append mt_append (pe_ix ix_list (pv 2) (pv 3) (fun _ _ => rfl)) (pa_cons (pv 4) pa_nil)))) (pss_one (ps_expr (pe_bm PySem.F.plainAttrs_list PySem.F.slot_list_insert PySem.F.type_list_insert mt_insert (pv 2) (pa_cons (pv 3) (pa_cons (pe_ix ix_list (pv 2) (pv 3) (fun _ _ => rfl)) pa_nil))))))))))
    (pss_one (ps_ret (pv 2))))))))), ?_⟩
    refine ⟨_, rfl, p, rfl, ⟨xs, .of hx⟩, fun L nL => lc_list (K := K) (a := p) (xs := xs) (fun i H' => Same H H' ∧ ∃ ys, H' L = some (.lst ys) ∧ ys.Nodup ∧ (∀ t, V.ref t ∈ ys → H t = none) ∧ Paired (LRun H') ys (rs.take i)) ⟨same_upd nL, [], upd_same, List.nodup_nil, (fun t h => by cases h), .nil⟩ (fun i H' _ p => .of (p.1 _ _ hx)) (fun i x H17 ex hP => ?_) (fun H1 hP => ?_)⟩
    · obtain ⟨sm, ys, hL, ndy, fr, hy⟩ := hP
      obtain ⟨r, er, hr1⟩ := Paired.at hp ex
      obtain ⟨t, rfl, ht⟩ := RunV.same sm hr1
      have hi : i < xs.length := (List.getElem?_eq_some_iff.mp ex).1
      refine ⟨rfl, yesT ⟨_, rfl, t, _, rfl, .inr (.of ht), fun n nn => ⟨_, same_upd nn _ _ hL, ?_, same_grow nL (sm.trans (same_upd nn)), ys ++ [.ref n], upd_same, ?_, ?_, ?_⟩⟩⟩
      · have := Paired.len hy
        rw [List.length_take] at this
        exact small (by omega)
      · refine List.nodup_append.mpr ⟨ndy, List.nodup_cons.mpr ⟨by simp, List.nodup_nil⟩, fun b hb c hc => ?_⟩
        rw [List.mem_singleton.mp hc]
        intro z
        rw [z] at hb
        obtain ⟨j, hj, ej⟩ := List.mem_iff_getElem.mp hb
        obtain ⟨r', _, ⟨t', e', h'⟩⟩ := Paired.at hy (List.getElem?_eq_getElem hj)
        rw [ej] at e'
        cases e'
        rw [h'] at nn
        cases nn
      · intro t' ht'
        rcases List.mem_append.mp ht' with z | z
        · exact fr t' z
        · cases List.mem_singleton.mp z
          exact sm.free nn
      · rw [take_snoc er]
        have notr : ∀ r' : Run, ys ≠ [.str r'.1, .int r'.2] := fun r' z => by
          obtain ⟨_, _, ⟨_, e, _⟩⟩ := Paired.at (i := 0) (x := V.str r'.1) hy (by rw [z]; rfl)
          cases e
        refine Paired.app (Paired.imp (fun _ r' z => LRun.grow (same_upd nn _ _ hL) (notr r') (LRun.same (same_upd nn) z)) hy) (.cons (LRun.grow (same_upd nn _ _ hL) (notr r) ⟨n, rfl, upd_same⟩) .nil)
    obtain ⟨s1, ys, hL, ndy, fr, hy⟩ := hP
    rw [lx, List.take_length] at hy
    have ly := Paired.len hy
    have z1 := z0.same s1
    have nLs : L ≠ sp := Spr.ne z0 nL
    -- where
    refine ⟨_, rfl, _, rfl, L, ys, rfl, .inl (.of hL), sp, _, rfl, z1, by omega, wide8 (by omega) (by omega), fun H2 t b2 z2 t0 t1 => ?_⟩
    have hL2 := b2 _ _ nLs hL
    have hy2 := Paired.imp (fun _ _ z => LRun.but z1 b2 z) hy
    have bA : But sp H H2 := (Same.but s1).trans b2
    clear hL hy z1 b2 hx hp s1
    -- the odd ones
    refine litF_set (Same.refl _) (d := .lst odds) (litF_lst (litsF_cons litF_int (litsF_cons litF_neg (litsF_cons litF_int (litsF_cons (litF_pow (a := 10) (b := 30) ⟨by decide, by decide, by decide⟩) (litsF_cons (litF_powS (a := 10) (b := 30) ⟨by decide, by decide, by decide⟩) (litsF_cons litF_bl (litsF_cons litF_non (litsF_cons litF_str (litsF_cons litF_str (litsF_cons litF_str (litsF_cons litF_str (litsF_cons litF_str (litsF_cons (litF_lst litsF_nil (Nat.le_of_ble_eq_true rfl)) (litsF_cons (litF_tup (litsF_cons litF_str (litsF_cons litF_int litsF_nil)) (Nat.le_of_ble_eq_true rfl)) (litsF_cons litF_str (litsF_cons litF_int litsF_nil)))))))))))))))) (Nat.le_of_ble_eq_true rfl)) (fun H3 v3 s3 r3 => ?_)
    have z3 := z2.same s3
    refine ⟨_, rfl, _, rfl, sp, 16, rfl, z3, by decide, by decide, fun H4 r b4 z4 r0' r1' => ?_⟩
    have lt : r.toNat < odds.length := by show r.toNat < 16; omega
    obtain ⟨a3, xs3, v, rfl, e3, ea3, ro⟩ := rp_at (r3.same (newH_but z2 b4)) r0' lt
    refine ⟨a3, xs3, r, v, rfl, rfl, .of (newH_sub _ _ e3), ea3, ?_⟩
    have mo := List.getElem_mem lt
    have oo := odds_ok _ mo
    have on := odds_noL _ mo
    have ro : Rp (newH H2 H4) v (odds[r.toNat]'lt) := ro
    generalize odds[r.toNat]'lt = o at *
    rw [Bool.and_eq_true, Bool.and_eq_true] at oo
    have og := oo.1.1
    have od : o.dep ≤ 1 := of_decide_eq_true oo.1.2
    have oc : o.cnt ≤ 3 := of_decide_eq_true oo.2
    have hL4 := b4 _ _ nLs (s3 _ _ hL2)
    have hy4 := Paired.imp (fun _ _ z => LRun.but z3 b4 (LRun.same s3 z)) hy2
    have bB : But sp H H4 := bA.trans ((Same.but s3).trans b4)
    clear r3 e3 ea3 hL2 hy2 z3 b4 s3 oo
    -- the way
    refine ⟨_, rfl, sp, 5, rfl, z4, by decide, by decide, fun H5 wy b5 z5 w0 w1 => ?_⟩
    have ro : Rp (newH H H5) v o := (ro.same (newH_but z2 b5)).same (newH_two (but_none z2 bA))
    have hL5 := b5 _ _ nLs hL4
    have hy5 := Paired.imp (fun _ _ z => LRun.but z4 b5 z) hy4
    have bC : But sp H H5 := bB.trans b5
    clear hL4 hy4 bB z4 b5
    obtain ⟨rw5, ey⟩ : ∃ x, ys[t.toNat]? = some x := ⟨_, List.getElem?_eq_getElem (by omega)⟩
    obtain ⟨rr, er, ⟨tr, rfl, htr⟩⟩ := Paired.at hy5 ey
    have hrr := okr rr (List.mem_of_getElem? er)
    have ntr := fr tr (List.mem_of_getElem? ey)
    have hst : sp ≠ tr := fun z => by
      obtain ⟨_, _, _, h1, _⟩ := z5
      rw [z, htr] at h1
      cases h1
    have zn : ∀ u, Spr (upd H5 tr u) sp := fun u => by
      obtain ⟨x1, x2, x3, h1, rest⟩ := z5
      exact ⟨x1, x2, x3, by rw [upd_ne hst]; exact h1, rest⟩
    have zL : ∀ u, Spr (upd H5 L u) sp := fun u => by
      obtain ⟨x1, x2, x3, h1, rest⟩ := z5
      exact ⟨x1, x2, x3, by rw [upd_ne nLs.symm]; exact h1, rest⟩
    have nys : ys ≠ [.str rr.1, .int rr.2] := fun z => by
      rw [z] at hy5
      cases hy5 with
      | cons h _ =>
        obtain ⟨_, e, _⟩ := h
        cases e
    have hLt : L ≠ tr := fun z => by
      rw [z, htr] at hL5
      exact nys (HO.lst.inj (Option.some.inj hL5)).symm
    have ysn : ys ≠ [] := fun z => by rw [z] at ly; rw [← ly] at lpos; exact absurd lpos (Nat.lt_irrefl 0)
    have hLG : newH H H5 L = some (.lst ys) := by rw [newH_at nL]; exact hL5
    have htG : newH H H5 tr = some (.lst [.str rr.1, .int rr.2]) := by rw [newH_at ntr]; exact htr
    have hyG : Paired (LRun (newH H H5)) ys rs := by
      have : ∀ {ws : List V} {rs' : List Run}, (∀ t, V.ref t ∈ ws → H t = none) → Paired (LRun H5) ws rs' → Paired (LRun (newH H H5)) ws rs' := by
        intro ws rs' f h
        induction h with
        | nil => exact .nil
        | @cons x y _ _ h _ ih =>
          obtain ⟨t', rfl, h'⟩ := h
          exact .cons ⟨t', rfl, by rw [newH_at (f t' (List.mem_cons_self ..))]; exact h'⟩ (ih fun t ht => f t (List.mem_cons_of_mem _ ht))
      exact this fr hy5
    have grow : ∀ e ∈ rs.map dRL, e.g = true ∧ e.dep ≤ 2 ∧ e.cnt ≤ 6 ∧ e.isI = false := fun e he => by
      obtain ⟨r, hr, rfl⟩ := List.mem_map.mp he
      exact row_g (okr r hr).1 (okr r hr).2
    have lm : (rs.map dRL).length = rs.length := List.length_map _
    -- a row becomes another
    have rowed : ∀ (ws : List V) (l : List Dat), Paired (Rp (upd (newH H H5) tr (.lst ws))) ws l → (Dat.lst l).g = true → (Dat.lst l).dep ≤ 2 → (Dat.lst l).cnt ≤ 6 → Q (.ref L) (upd H5 tr (.lst ws)) := fun ws l hw h1 h2 h3 => by
      have hr2 := rows_set (u := .lst ws) (e := .lst l) (.lst upd_same hw) ndy hyG ey
      refine q _ _ _ (upd_but bC ntr) (zn _) (by rw [newH_updE ntr]; exact .lst (by rw [upd_ne hLt]; exact hLG) hr2) (vg_rows (fun e he => ?_) (by rw [List.length_set]; omega) ?_)
      · rcases List.mem_or_eq_of_mem_set he with z | z
        · have := grow e z
          exact ⟨this.1, this.2.1, this.2.2.1⟩
        · rw [z]
          exact ⟨h1, h2, h3⟩
      · refine not_threeG (e := .lst l) ?_ rfl
        exact List.mem_iff_getElem.mpr ⟨t.toNat, by rw [List.length_set]; omega, by rw [List.getElem_set_self]⟩
    -- something comes between
    have between : ∀ (v' : V) (d' : Dat), Rp (upd (newH H H5) L (.lst (ys.take t.toNat ++ [v'] ++ ys.drop t.toNat))) v' d' → d'.g = true → d'.dep ≤ 2 → d'.cnt ≤ 6 → Q (.ref L) (upd H5 L (.lst (ys.take t.toNat ++ [v'] ++ ys.drop t.toNat))) := fun v' d' hv h1 h2 h3 => by
      have hr : Paired (Rp (upd (newH H H5) L (.lst (ys.take t.toNat ++ [v'] ++ ys.drop t.toNat)))) ys (rs.map dRL) := by
        have : ∀ {ws : List V} {rs' : List Run}, Paired (LRun (newH H H5)) ws rs' → Paired (Rp (upd (newH H H5) L (.lst (ys.take t.toNat ++ [v'] ++ ys.drop t.toNat)))) ws (rs'.map dRL) := by
          intro ws rs' h
          induction h with
          | nil => exact .nil
          | @cons x y _ _ h _ ih =>
            obtain ⟨t', rfl, h'⟩ := h
            have ne : t' ≠ L := fun z => by
              rw [z, hLG] at h'
              have e := HO.lst.inj (Option.some.inj h')
              rw [e] at hyG
              cases hyG with
              | cons h _ =>
                obtain ⟨_, e, _⟩ := h
                cases e
            exact .cons (.lst (by rw [upd_ne ne]; exact h') (.cons (.str _) (.cons (.int _) .nil))) ih
        exact this hyG
      refine q _ _ _ (upd_but bC nL) (zL _) (by rw [newH_updE nL]; exact .lst (l := (rs.map dRL).take t.toNat ++ [d'] ++ (rs.map dRL).drop t.toNat) upd_same (Paired.app (Paired.app (Paired.takep _ hr) (.cons hv .nil)) (Paired.dropp _ hr))) (vg_rows (fun e he => ?_) ?_ ?_)
      · rcases List.mem_append.mp he with he | he
        · rcases List.mem_append.mp he with he | he
          · have := grow e (List.mem_of_mem_take he)
            exact ⟨this.1, this.2.1, this.2.2.1⟩
          · rw [List.mem_singleton.mp he]
            exact ⟨h1, h2, h3⟩
        · have := grow e (List.mem_of_mem_drop he)
          exact ⟨this.1, this.2.1, this.2.2.1⟩
      · simp only [List.length_append, List.length_take, List.length_drop, List.length_singleton]
        omega
      · obtain ⟨x, hx⟩ : ∃ x, (rs.map dRL)[t.toNat]? = some x := ⟨_, List.getElem?_eq_getElem (by omega)⟩
        refine not_threeG (e := x) ?_ (grow x (List.mem_of_getElem? hx)).2.2.2
        refine List.mem_append.mpr (.inr ?_)
        have : ((rs.map dRL).drop t.toNat)[0]? = some x := by rw [List.getElem?_drop]; exact hx
        exact List.mem_of_getElem? this
    have kg := kind_g hrr.1
    have ig : (Dat.int rr.2).g = true := by rw [Dat.g]; exact decide_eq_true hrr.2
    have eat : atI ys t = some (.ref tr) := atI_of t0 ey
    have g2 : ∀ {a b : Dat}, a.g = true → b.g = true → a.dep ≤ 1 → b.dep ≤ 1 → a.cnt + b.cnt ≤ 4 → (Dat.lst [a, b]).g = true ∧ (Dat.lst [a, b]).dep ≤ 2 ∧ (Dat.lst [a, b]).cnt ≤ 6 := fun {a b} ha hb da db c => by
      have h3 : Dat.three [a, b] = false := by
        cases h : Dat.three [a, b] with
        | false => rfl
        | true =>
          obtain ⟨_, _, _, e⟩ := three_ofG h
          cases e
      refine ⟨?_, ?_, ?_⟩
      · rw [Dat.g, h3, Dat.gs, Dat.gs, Dat.gs, ha, hb]
        rfl
      · rw [Dat.dep, Dat.deps, Dat.deps, Dat.deps]
        have : max a.dep (max b.dep 0) ≤ 1 := Nat.max_le.mpr ⟨da, Nat.max_le.mpr ⟨db, Nat.zero_le _⟩⟩
        omega
      · rw [Dat.cnt, Dat.cnts, Dat.cnts, Dat.cnts]
        omega
    have ic : ∀ n : Int, (Dat.int n).cnt = 1 ∧ (Dat.int n).dep = 0 := fun n => ⟨by rw [Dat.cnt], by rw [Dat.dep]⟩
    have sc : ∀ n : Str, (Dat.str n).cnt = 1 ∧ (Dat.str n).dep = 0 := fun n => ⟨by rw [Dat.cnt], by rw [Dat.dep]⟩
    have i1 := ic rr.2
    have s1 := sc rr.1
    refine ⟨_, rfl, _, _, rfl, rfl, _, rfl, ?_⟩
    by_cases c1 : wy < 2
    · refine iteP (decide_eq_true c1) ⟨_, rfl, _, rfl, _, rfl, L, ys, t, _, rfl, rfl, .of hL5, eat, _, rfl, ?_⟩
      rcases (show wy = 0 ∨ wy = 1 by omega) with e | e
      · subst e
        obtain ⟨a1, a2, a3⟩ := g2 og ig od (by omega) (by omega)
        exact ⟨tr, _, 0, 0, rfl, rfl, htr, rfl, _, rfl, rowed [v, .int rr.2] [o, .int rr.2] (.cons (noL_upd htG (by simp) ro on) (.cons (.int _) .nil)) a1 a2 a3⟩
      · subst e
        obtain ⟨a1, a2, a3⟩ := g2 kg og (by omega) od (by omega)
        exact ⟨tr, _, 1, 1, rfl, rfl, htr, rfl, _, rfl, rowed [.str rr.1, v] [.str rr.1, o] (.cons (.str _) (.cons (noL_upd htG (by simp) ro on) .nil)) a1 a2 a3⟩
    refine iteN (decide_eq_false c1) ⟨_, rfl, rfl, _, rfl, ?_⟩
    by_cases c2 : wy = 2
    · refine iteP (decide_eq_true (congrArg V.int c2)) ⟨_, rfl, .inl ⟨rfl, _, SqL.of hL5⟩, _, rfl, _, rfl, L, ys, t, v, rfl, rfl, hL5, small (by omega), t0, by omega, ?_⟩
      exact ⟨_, rfl, between v o (noL_upd hLG ysn ro on) og (by omega) (by omega)⟩
    refine iteN (decide_eq_false fun z => c2 (V.int.inj z)) ⟨_, rfl, rfl, _, rfl, ?_⟩
    by_cases c3 : wy = 3
    · refine iteP (decide_eq_true (congrArg V.int c3)) ⟨_, rfl, _, rfl, L, ys, t, _, rfl, rfl, .of hL5, eat, .inl ⟨rfl, _, SqL.of htr⟩, _, rfl, tr, _, _, rfl, rfl, htr, small (by show 2 ≤ 1000000; decide), ?_⟩
      have h3 : Dat.three [.str rr.1, .int rr.2, o] = false := not_threeG (e := .str rr.1) (List.mem_cons_self ..) rfl
      refine ⟨_, rfl, rowed [.str rr.1, .int rr.2, v] [.str rr.1, .int rr.2, o] (.cons (.str _) (.cons (.int _) (.cons (noL_upd htG (by simp) ro on) .nil))) ?_ ?_ ?_⟩
      · rw [Dat.g, h3, Dat.gs, Dat.gs, Dat.gs, Dat.gs, kg, ig, og]
        rfl
      · rw [Dat.dep, Dat.deps, Dat.deps, Dat.deps, Dat.deps]
        have : max (Dat.str rr.1).dep (max (Dat.int rr.2).dep (max o.dep 0)) ≤ 1 := Nat.max_le.mpr ⟨by omega, Nat.max_le.mpr ⟨by omega, Nat.max_le.mpr ⟨od, Nat.zero_le _⟩⟩⟩
        omega
      · rw [Dat.cnt, Dat.cnts, Dat.cnts, Dat.cnts, Dat.cnts]
        omega
    refine iteN (decide_eq_false fun z => c3 (V.int.inj z)) ⟨_, rfl, .inl ⟨rfl, _, SqL.of hL5⟩, _, rfl, _, rfl, _, rfl, L, ys, t, _, rfl, rfl, .of hL5, eat, L, ys, t, .ref tr, rfl, rfl, hL5, small (by omega), t0, by omega, ?_⟩
    have rg := row_g hrr.1 hrr.2
    exact ⟨_, rfl, between (.ref tr) (dRL rr) (.lst (by rw [upd_ne hLt.symm]; exact htG) (.cons (.str _) (.cons (.int _) .nil))) rg.1 rg.2.1 rg.2.2.1⟩
end
end UP

set_option Elab.async false
set_option linter.all false
set_option maxRecDepth 100000
set_option maxHeartbeats 4000000
set_option pp.maxSteps 600
namespace UP
open PySem PySem.Spec PyProof.Rows L2
theorem if_gen {c : TT} {t u rest : TS} {D : Ends} {σ : L2.St} {H : Hp} (Ok : L2.St → Hp → Prop) (h : ∀ R : L2.St → Hp → Prop, (∀ σ' H', Ok σ' H' → R σ' H') → tIfS c t u { D with nx := R } σ H) (k : ∀ σ' H', Ok σ' H' → rest D σ' H') : tSeq (tIfS c t u) rest D σ H := h (rest D) k
/-- the heap without B0 -/
def noA (B0 : Addr) (H : Hp) : Hp := fun b => if b = B0 then none else H b
theorem noA_sub {B0 : Addr} {H : Hp} : Same (noA B0 H) H := fun b o e => by
  unfold noA at e
  by_cases c : b = B0
  · rw [if_pos c] at e; cases e
  · rw [if_neg c] at e; exact e
theorem noA_new {B0 : Addr} {H : Hp} {o : HO} (n : H B0 = none) : Same H (noA B0 (upd H B0 o)) := fun b x e => by
  have c : b ≠ B0 := fun z => by rw [z, n] at e; cases e
  unfold noA
  rw [if_neg c, upd_ne c]
  exact e
theorem noA_upd {B0 : Addr} {H : Hp} {o : HO} : noA B0 (upd H B0 o) = noA B0 H := by
  funext b
  unfold noA
  by_cases c : b = B0
  · rw [if_pos c, if_pos c]
  · rw [if_neg c, if_neg c, upd_ne c]
theorem noA_but {B0 sp : Addr} {H H' : Hp} (b : But sp H H') : But sp (noA B0 H) (noA B0 H') := fun x o n e => by
  unfold noA at e ⊢
  by_cases c : x = B0
  · rw [if_pos c] at e; cases e
  · rw [if_neg c] at e ⊢; exact b x o n e
theorem noA_spr {B0 sp : Addr} {H : Hp} (z : Spr H sp) (n : B0 ≠ sp) : Spr (noA B0 H) sp := by
  obtain ⟨x1, x2, x3, h1, rest⟩ := z
  exact ⟨x1, x2, x3, by unfold noA; rw [if_neg n.symm]; exact h1, rest⟩
/-! ### no list whose sixth item is None -/
def nv5 : List Dat → Bool
  | _ :: _ :: _ :: _ :: _ :: .non :: _ => false
  | _ => true
mutual
def Dat.nv : Dat → Bool
  | .lst l => nv5 l && Dat.nvs l
  | .tup l => Dat.nvs l
  | .non => true
  | .bl _ => true
  | .int _ => true
  | .str _ => true
  | .dic => true
def Dat.nvs : List Dat → Bool
  | [] => true
  | x :: t => x.nv && Dat.nvs t
end
theorem Rp.noA {B0 : Addr} {H : Hp} {zs : List V} {v : V} {d : Dat} (hV : H B0 = some (.lst zs)) (h5 : zs[5]? = some .non) (h : Rp H v d) : d.nv = true → Rp (noA B0 H) v d := by
  have keep : ∀ {b : Addr} {o : HO}, b ≠ B0 → H b = some o → UP.noA B0 H b = some o := fun n e => by
    unfold UP.noA
    rw [if_neg n]
    exact e
  refine Rp.rec (motive_1 := fun v d _ => d.nv = true → Rp (UP.noA B0 H) v d) (motive_2 := fun xs l _ => Dat.nvs l = true → Paired (Rp (UP.noA B0 H)) xs l) (fun _ => .non) (fun b _ => .bl b) (fun n _ => .int n) (fun z _ => .str z) ?_ ?_ ?_ (fun _ => .nil) ?_ h
  · intro a e _
    exact .dic (keep (fun z => by rw [z, hV] at e; cases e) e)
  · intro a xs l e p ih c
    rw [Dat.nv, Bool.and_eq_true] at c
    refine .lst (keep (fun z => ?_) e) (ih c.2)
    rw [z, hV] at e
    have e := HO.lst.inj (Option.some.inj e)
    subst e
    obtain ⟨y, ey, hy⟩ := Paired.at p h5
    cases hy
    have c1 := c.1
    match l, ey with
    | _ :: _ :: _ :: _ :: _ :: x :: _, ey =>
      cases ey
      cases c1
  · intro a xs l e p ih c
    rw [Dat.nv] at c
    exact .tup (keep (fun z => by rw [z, hV] at e; cases e) e) (ih c)
  · intro x y xs ys _ _ h1 h2 c
    rw [Dat.nvs, Bool.and_eq_true] at c
    exact .cons (h1 c.1) (h2 c.2)
/-! ### sequences as values -/
theorem dR_g {r : Run} (h : KindOk r.1) (h2 : r.2.natAbs < 10 ^ 60) : (dR r).g = true ∧ (dR r).dep ≤ 2 ∧ (dR r).cnt ≤ 6 ∧ (dR r).isI = false := by
  refine ⟨?_, ?_, ?_, rfl⟩
  · show (Dat.tup [.str r.1, .int r.2]).g = true
    rw [Dat.g, Dat.gs, Dat.gs, Dat.gs, kind_g h, Dat.g, decide_eq_true h2]
    rfl
  · show (Dat.tup [.str r.1, .int r.2]).dep ≤ 2
    simp [Dat.dep, Dat.deps]
  · show (Dat.tup [.str r.1, .int r.2]).cnt ≤ 6
    simp [Dat.cnt, Dat.cnts]
theorem not_three_allG {l : List Dat} (h : ∀ e ∈ l, e.isI = false) : Dat.three l = false := by
  cases l with
  | nil => rfl
  | cons x t => exact not_threeG (List.mem_cons_self ..) (h x (List.mem_cons_self ..))
theorem vg_list {l : List Dat} (h : ∀ e ∈ l, e.g = true ∧ e.dep ≤ 2 ∧ e.cnt ≤ 6 ∧ e.isI = false) (hl : l.length ≤ 803) : Vg (.lst l) :=
  vg_rows (fun e he => ⟨(h e he).1, (h e he).2.1, (h e he).2.2.1⟩) hl (not_three_allG fun e he => (h e he).2.2.2)
theorem vg_tuple {l : List Dat} (h : ∀ e ∈ l, e.g = true ∧ e.dep ≤ 2 ∧ e.cnt ≤ 6 ∧ e.isI = false) (hl : l.length ≤ 803) : Vg (.tup l) := by
  have c := cnts_le fun e he => (h e he).2.2.1
  have d := deps_le fun e he => (h e he).2.1
  refine .inr ⟨?_, ?_, ?_⟩
  · rw [Dat.g, gs_of fun e he => (h e he).1]
  · rw [Dat.dep]; omega
  · rw [Dat.cnt]; omega
theorem nvs_of : ∀ {l : List Dat}, (∀ e ∈ l, e.nv = true) → Dat.nvs l = true
  | [], _ => by rw [Dat.nvs]
  | x :: t, h => by rw [Dat.nvs, h x (List.mem_cons_self ..), nvs_of fun e he => h e (List.mem_cons_of_mem _ he)]; rfl
theorem nv5_of {l : List Dat} (h : ∀ e ∈ l, e ≠ .non) : nv5 l = true := by
  match l with
  | [] => rfl
  | [_] => rfl
  | [_, _] => rfl
  | [_, _, _] => rfl
  | [_, _, _, _] => rfl
  | [_, _, _, _, _] => rfl
  | _ :: _ :: _ :: _ :: _ :: x :: _ =>
    have := h x (by simp)
    cases x with
    | non => exact absurd rfl this
    | _ => rfl
/-- a dressed sequence -/
theorem runsG_rp {H : Hp} {v : V} {rs : List Run} (h : RunsG H v rs) (ok : ∀ r ∈ rs, KindOk r.1 ∧ r.2.natAbs < 10 ^ 60) (l4 : rs.length ≤ 400) : ∃ d l, Rp H v d ∧ d.parts = some l ∧ Vg d ∧ l.length = rs.length ∧ (∀ e ∈ l, e.g = true ∧ e.dep ≤ 2 ∧ e.cnt ≤ 6 ∧ e.isI = false) := by
  obtain ⟨a, xs, rfl, hx, hp⟩ := h
  have gen : ∀ {xs : List V} {rs : List Run}, Paired (RunG H) xs rs → (∀ r ∈ rs, KindOk r.1 ∧ r.2.natAbs < 10 ^ 60) → ∃ l, Paired (Rp H) xs l ∧ l.length = rs.length ∧ ∀ e ∈ l, e.g = true ∧ e.dep ≤ 2 ∧ e.cnt ≤ 6 ∧ e.isI = false := by
    intro xs rs h
    induction h with
    | nil => intro _; exact ⟨[], .nil, rfl, fun e he => by cases he⟩
    | @cons x r _ _ h _ ih =>
      intro k
      obtain ⟨l, h1, h2, h3⟩ := ih fun r hr => k r (List.mem_cons_of_mem _ hr)
      have kr := k r (List.mem_cons_self ..)
      obtain ⟨t, rfl, ht⟩ := h
      have one : ∃ e, Rp H (.ref t) e ∧ e.g = true ∧ e.dep ≤ 2 ∧ e.cnt ≤ 6 ∧ e.isI = false := by
        rcases ht with ht | ht
        · exact ⟨dRL r, .lst ht (.cons (.str _) (.cons (.int _) .nil)), row_g kr.1 kr.2⟩
        · exact ⟨dR r, .tup ht (.cons (.str _) (.cons (.int _) .nil)), dR_g kr.1 kr.2⟩
      obtain ⟨e, he, ge⟩ := one
      refine ⟨e :: l, .cons he h1, by rw [List.length_cons, List.length_cons, h2], fun x hx => ?_⟩
      rcases List.mem_cons.mp hx with z | z
      · rw [z]; exact ge
      · exact h3 x z
  obtain ⟨l, h1, h2, h3⟩ := gen hp ok
  rcases hx with hx | hx
  · exact ⟨.lst l, l, .lst hx h1, rfl, vg_list h3 (by omega), h2, h3⟩
  · exact ⟨.tup l, l, .tup hx h1, rfl, vg_tuple h3 (by omega), h2, h3⟩
def cutD (l : List Dat) (lo hi : Option Int) : List Dat := (l.drop (HT.sIx l.length 0 lo)).take (HT.sIx l.length l.length hi - HT.sIx l.length 0 lo)
theorem cutD_mem {l : List Dat} {lo hi : Option Int} {x : Dat} (h : x ∈ cutD l lo hi) : x ∈ l := List.mem_of_mem_drop (List.mem_of_mem_take h)
theorem cutD_len (l : List Dat) (lo hi : Option Int) : (cutD l lo hi).length ≤ l.length := by
  unfold cutD
  rw [List.length_take, List.length_drop]
  omega
theorem paired_cut {F : V → Dat → Prop} {xs : List V} {l : List Dat} {lo hi : Option Int} (h : Paired F xs l) : Paired F (cutV xs lo hi) (cutD l lo hi) := by
  unfold cutV cutD
  rw [Paired.len h]
  exact Paired.takep _ (Paired.dropp _ h)
end UP

set_option Elab.async false
set_option linter.all false
set_option maxRecDepth 100000
set_option maxHeartbeats 4000000
set_option pp.maxSteps 600
namespace UP
open PySem PySem.Spec PyProof.Rows L2
/-! ### slices of written values -/
def LitO (σ : L2.St) (H0 : Hp) (t : TO) (o : Option Int) : Prop := ∀ H (R : Option Int → Hp → Prop), Same H0 H → R o H → t σ H R
section
variable {σ : L2.St} {H0 : Hp} {K : PySem.W.Frag}
theorem lito_none : LitO σ H0 tNoPart none := fun H R _ q => q
theorem lito_var {i : Nat} {k : Int} (e : σ[i]? = some (some (.int k))) : LitO σ H0 (tPart (tVar i)) (some k) := fun H R _ q => ⟨_, e, k, rfl, q⟩
theorem lito_int {n : Int} : LitO σ H0 (tPart (tC (.int n))) (some n) := fun H R _ q => ⟨n, rfl, q⟩
theorem lito_neg {n : Int} : LitO σ H0 (tPart (tUn (rU fun i => V.int (-i)) (tC (V.int n)))) (some (-n)) := fun H R _ q => ⟨n, rfl, -n, rfl, q⟩
theorem lito_add {i : Nat} {k n : Int} (e : σ[i]? = some (some (.int k))) : LitO σ H0 (tPart (tOp (rI0 fun i j => V.int (i + j)) (tVar i) (tC (.int n)))) (some (k + n)) := fun H R _ q => ⟨_, e, k, n, rfl, rfl, _, rfl, q⟩
theorem lit_cut {t : TE} {tl th : TO} {ds : List Dat} {lo hi : Option Int} (h : Lit σ H0 t (.lst ds)) (hl : LitO σ H0 tl lo) (hh : LitO σ H0 th hi) : Lit σ H0 (tSl (rSlL K) t tl th) (.lst (cutD ds lo hi)) := fun H Q s q => h H _ s fun H1 v s1 r1 => hl H1 _ (s.trans s1) (hh H1 _ (s.trans s1) (by
  cases r1 with
  | lst e p => exact ⟨_, _, rfl, .of e, fun a na => q _ _ (s1.trans (same_upd na)) (.lst upd_same (rps_same (same_upd na) (paired_cut p)))⟩))
end

/-! ### a walk over what an expression gives, a list or a tuple -/
def iSeqE (te : TE) : TI := fun σ H R => te σ H fun x H1 => ∃ a xs, x = .ref a ∧ Sq2 H1 a xs ∧ ∀ J, Wk J H1 xs → R J H1
theorem pi_seqE {X : Cx} {tg l : Expr} {tl : TE} (hl : PE X l tl) : PI X tg l (iSeqE tl) := by
  refine ⟨fun pins s σ H R I h => ?_⟩
  refine thn (hl.run pins s σ H _ I h) fun v s1 ⟨x, H1, I1, r1, q1⟩ => ?_
  obtain ⟨a, xs, e, hq, q⟩ := q1
  subst e
  cases r1
  rcases hq with hq | hq
  · obtain ⟨its, rv, p, hz⟩ := I1.list (SqL.of (K := X.K) hq)
    refine wpAny_pyIter_list p.isList ?_
    refine ⟨s1.heap.objs.size, [s1.heap.objs.size], _, _, H1, rfl, I1.kept (t' := s1.toks) fun b o e => Heap.get?_push_of_some _ e, turn_list a _, ⟨_, Heap.get?_push_size _ rfl, rfl, rfl⟩, fun b hb => ?_, q _ (wk_list (K := X.K) hq)⟩
    have e : b = s1.heap.objs.size := by simpa using hb
    subst e
    exact I1.fpOk (Nat.le_refl _) (I1.hok.fresh (Nat.le_refl _))
  · obtain ⟨its, rv, p, hz⟩ := I1.tuple (SqT.of (K := X.K) hq)
    refine wpAny_pyIter_tuple (show s1.heap.IsTuple a its.toArray from p) ?_
    refine ⟨s1.heap.objs.size, [s1.heap.objs.size], _, _, H1, rfl, I1.kept (t' := s1.toks) fun b o e => Heap.get?_push_of_some _ e, turn_tuple a _, ⟨_, Heap.get?_push_size _ rfl, rfl, rfl⟩, fun b hb => ?_, q _ (wk_tup (K := X.K) hq)⟩
    have e : b = s1.heap.objs.size := by simpa using hb
    subst e
    exact I1.fpOk (Nat.le_refl _) (I1.hok.fresh (Nat.le_refl _))
/-! ### the menus are good -/
def vgB (d : Dat) : Bool := match d with
  | .dic => true
  | d => d.g && decide (d.dep ≤ 4) && decide (d.cnt ≤ 5000)
theorem vg_ofB {d : Dat} (h : vgB d = true) : Vg d := by
  cases d with
  | dic => exact .inl rfl
  | _ =>
    refine .inr ?_
    unfold vgB at h
    simp only [Bool.and_eq_true, decide_eq_true_eq] at h
    exact ⟨h.1.1, h.1.2, h.2⟩
theorem noState_vg : ∀ d ∈ noState, vgB d = true := by decide +kernel
theorem noSeq_ok {X : List Dat} (hX : ∀ e ∈ X, e.g = true ∧ e.dep ≤ 2 ∧ e.cnt ≤ 6 ∧ e.isI = false) (hn : ∀ e ∈ X, e.nv = true ∧ e ≠ .non) (lX : X.length ≤ 400) : ∀ d ∈ noSeq X, Vg d ∧ d.nv = true := by
  intro d hd
  unfold noSeq at hd
  have A : ∀ {l : List Dat}, (∀ d ∈ l, (vgB d && d.nv) = true) → d ∈ l → Vg d ∧ d.nv = true := fun h hd => by
    have := h d hd
    rw [Bool.and_eq_true] at this
    exact ⟨vg_ofB this.1, this.2⟩
  rcases List.mem_append.mp hd with hd | hd
  · rcases List.mem_append.mp hd with hd | hd
    · exact A (by decide +kernel) hd
    · rcases List.mem_cons.mp hd with e | hd
      · rw [e]
        have : (vgB (.lst ((List.replicate (200 : Int).toNat [Dat.tup [.str "a", .int 1], .tup [.str "b", .int 1]]).flatten ++ [.tup [.str "a", .int 1]])) && Dat.nv (.lst ((List.replicate (200 : Int).toNat [Dat.tup [.str "a", .int 1], .tup [.str "b", .int 1]]).flatten ++ [.tup [.str "a", .int 1]]))) = true := by decide +kernel
        rw [Bool.and_eq_true] at this
        exact ⟨vg_ofB this.1, this.2⟩
      · rcases List.mem_cons.mp hd with e | hd
        · rw [e]
          have last : (Dat.tup [.str "b", .int (-1)]).g = true ∧ (Dat.tup [.str "b", .int (-1)]).dep ≤ 2 ∧ (Dat.tup [.str "b", .int (-1)]).cnt ≤ 6 ∧ (Dat.tup [.str "b", .int (-1)]).isI = false := by decide +kernel
          refine ⟨vg_list (fun e he => ?_) (by rw [List.length_append, List.length_singleton]; omega), ?_⟩
          · rcases List.mem_append.mp he with z | z
            · exact hX e z
            · rw [List.mem_singleton.mp z]; exact last
          · rw [Dat.nv, nv5_of, nvs_of]
            · rfl
            · intro e he
              rcases List.mem_append.mp he with z | z
              · exact (hn e z).1
              · rw [List.mem_singleton.mp z]; decide +kernel
            · intro e he
              rcases List.mem_append.mp he with z | z
              · exact (hn e z).2
              · rw [List.mem_singleton.mp z]; intro q; cases q
        · exact A (by decide +kernel) hd
  · exact A (by decide +kernel) hd
theorem vgs_all : ∀ {l : List Dat}, (∀ d ∈ l, Vg d) → PyData.showableAll (Dat.pys l) = true ∧ PyData.depthAll (Dat.pys l) ≤ 4 ∧ ((PyData.shownAll (Dat.pys l)).map (·.length)).sum + 2 * l.length ≤ 515000 * l.length ∧ (PyData.shownAll (Dat.pys l)).length = l.length
  | [], _ => by
    rw [Dat.pys]
    exact ⟨by rw [PyData.showableAll], by rw [PyData.depthAll]; exact Nat.zero_le _, by rw [PyData.shownAll]; exact Nat.zero_le _, by rw [PyData.shownAll]; rfl⟩
  | x :: t, h => by
    obtain ⟨a', e', f', k'⟩ := vgs_all fun d hd => h d (List.mem_cons_of_mem _ hd)
    have one : x.py.showable = true ∧ x.py.depth ≤ 4 ∧ x.py.shown.length + 2 ≤ 515000 := by
      rcases h x (List.mem_cons_self ..) with rfl | ⟨g, d, c⟩
      · decide +kernel
      · obtain ⟨a, _, _, e, f⟩ := g_all x g
        exact ⟨a, by omega, by omega⟩
    rw [Dat.pys, PyData.showableAll, PyData.depthAll, PyData.shownAll, one.1, a']
    refine ⟨rfl, Nat.max_le.mpr ⟨one.2.1, e'⟩, ?_, by rw [List.length_cons, List.length_cons, k']⟩
    rw [List.map_cons, List.sum_cons, List.length_cons]
    have := one.2.2
    omega
theorem both_fit {A B : List Dat} (hA : ∀ d ∈ A, Vg d) (hB : ∀ d ∈ B, Vg d) (l : A.length + B.length ≤ 30) : (Dat.lst [.lst A, .lst B]).py.showable = true ∧ (Dat.lst [.lst A, .lst B]).py.depth ≤ 64 ∧ (Dat.lst [.lst A, .lst B]).py.shown.length ≤ sizeLine := by
  obtain ⟨a1, a2, a3, a4⟩ := vgs_all hA
  obtain ⟨b1, b2, b3, b4⟩ := vgs_all hB
  have la := listText_len_le (PyData.shownAll (Dat.pys A))
  have lb := listText_len_le (PyData.shownAll (Dat.pys B))
  have lt := listText_len_le [listText (PyData.shownAll (Dat.pys A)), listText (PyData.shownAll (Dat.pys B))]
  have e : (Dat.lst [.lst A, .lst B]).py = .list [.list (Dat.pys A), .list (Dat.pys B)] := by rw [Dat.py, Dat.pys, Dat.pys, Dat.pys, Dat.py, Dat.py]
  rw [e]
  refine ⟨?_, ?_, ?_⟩
  · rw [PyData.showable, PyData.showableAll, PyData.showableAll, PyData.showableAll, PyData.showable, PyData.showable, a1, b1]
    rfl
  · rw [PyData.depth, PyData.depthAll, PyData.depthAll, PyData.depthAll, PyData.depth, PyData.depth]
    omega
  · rw [PyData.shown, PyData.shownAll, PyData.shownAll, PyData.shownAll, PyData.shown, PyData.shown]
    simp only [List.map_cons, List.map_nil, List.sum_cons, List.sum_nil, List.length_cons, List.length_nil] at lt
    have z : (16000000 : Nat) ≤ sizeLine := by decide
    omega
end UP

set_option Elab.async false
set_option linter.all false
set_option maxRecDepth 100000
set_option maxHeartbeats 4000000
set_option pp.maxSteps 600
namespace UP
open PySem PySem.Spec PyProof.Rows L2
/-- one of the lists changed -/
theorem lrun_set {H : Hp} {t : Addr} {o : HO} : ∀ {xs : List V} {hs : List Run} {i : Nat} {r' : Run}, xs.Nodup → Paired (LRun H) xs hs → xs[i]? = some (.ref t) → o = .lst [.str r'.1, .int r'.2] → Paired (LRun (upd H t o)) xs (hs.set i r')
  | [], _, _, _, _, .nil, h, _ => by simp at h
  | x :: u, r :: hs, 0, r', nd, .cons h p, e, ho => by
    have e : x = .ref t := Option.some.inj e
    subst e
    have nd := List.nodup_cons.mp nd
    refine .cons ⟨t, rfl, by rw [upd_same, ho]⟩ ?_
    have keep : ∀ (u : List V) (hs : List Run), V.ref t ∉ u → Paired (LRun H) u hs → Paired (LRun (upd H t o)) u hs := by
      intro u hs nu hp
      induction hp with
      | nil => exact .nil
      | cons h _ ih =>
        obtain ⟨t', rfl, h'⟩ := h
        have ne : t' ≠ t := fun z => nu (by rw [z]; exact List.mem_cons_self ..)
        refine .cons ⟨t', rfl, by rw [upd_ne ne]; exact h'⟩ (ih fun z => nu (List.mem_cons_of_mem _ z))
    exact keep u hs nd.1 p
  | x :: u, r :: hs, i + 1, r', nd, .cons h p, e, ho => by
    have e : u[i]? = some (.ref t) := e
    have nd := List.nodup_cons.mp nd
    obtain ⟨t', rfl, h'⟩ := h
    have ne : t' ≠ t := fun z => nd.1 (by rw [z]; exact List.mem_of_getElem? e)
    exact .cons ⟨t', rfl, by rw [upd_ne ne]; exact h'⟩ (lrun_set nd.2 p e ho)
theorem alt_of {rs hs : List Run} (h : hs.map (·.1) = rs.map (·.1)) (a : Alt rs) : Alt hs := by
  intro i x y hx hy
  have l : hs.length = rs.length := by
    have := congrArg List.length h
    rw [List.length_map, List.length_map] at this
    exact this
  have ix : i < rs.length := by
    have := (List.getElem?_eq_some_iff.mp hx).1
    omega
  have iy : i + 1 < rs.length := by
    have := (List.getElem?_eq_some_iff.mp hy).1
    omega
  have e1 : some x.1 = some (rs[i]).1 := by
    have := congrArg (fun l : List Str => l[i]?) h
    simp only [List.getElem?_map, hx, List.getElem?_eq_getElem ix] at this
    exact this
  have e2 : some y.1 = some (rs[i + 1]).1 := by
    have := congrArg (fun l : List Str => l[i + 1]?) h
    simp only [List.getElem?_map, hy, List.getElem?_eq_getElem iy] at this
    exact this
  rw [Option.some.inj e1, Option.some.inj e2]
  exact a i _ _ (List.getElem?_eq_getElem ix) (List.getElem?_eq_getElem iy)
theorem map_set {hs : List Run} {i : Nat} {r : Run} {c : Int} (h : hs[i]? = some r) : (hs.set i (r.1, c)).map (·.1) = hs.map (·.1) := by
  rw [List.map_set]
  refine List.ext_getElem? fun j => ?_
  by_cases e : i = j
  · subst e
    have := (List.getElem?_eq_some_iff.mp h).1
    rw [List.getElem?_set_self (by rw [List.length_map]; exact this), List.getElem?_map, h]
    rfl
  · rw [List.getElem?_set_ne e]
theorem kinds_of {rs hs : List Run} (h : hs.map (·.1) = rs.map (·.1)) (k : ∀ r ∈ rs, KindOk r.1) : ∀ r ∈ hs, KindOk r.1 := by
  intro r hr
  have : r.1 ∈ rs.map (·.1) := by
    rw [← h]
    exact List.mem_map.mpr ⟨r, hr, rfl⟩
  obtain ⟨x, hx, e⟩ := List.mem_map.mp this
  rw [← e]
  exact k x hx
theorem cut_at {ys : List V} {lo hi : Option Int} {j : Nat} {x : V} (h : (cutV ys lo hi)[j]? = some x) : ∃ k : Nat, ys[k]? = some x ∧ j < ys.length := by
  have l := cutV_length ys lo hi
  have hj := (List.getElem?_eq_some_iff.mp h).1
  unfold cutV at h
  rw [List.getElem?_take] at h
  split at h
  · rw [List.getElem?_drop] at h
    exact ⟨_, h, by omega⟩
  · cases h
theorem pick2 {x y r : Int} (h0 : 0 ≤ r) (h1 : r < 2) : ∃ g, atI [V.int x, V.int y] r = some (.int g) ∧ (g = x ∨ g = y) := by
  by_cases h : r = 0
  · subst h
    exact ⟨x, rfl, .inl rfl⟩
  · have e : r = 1 := by omega
    subst e
    exact ⟨y, rfl, .inr rfl⟩

theorem newH_noA {C : Addr} {H H' : Hp} {o : HO} (h : H C = some o) : Same (newH H H') (noA C H') := fun b x e => by
  have ne : b ≠ C := fun z => by rw [z, newH_old h] at e; cases e
  unfold noA
  rw [if_neg ne]
  exact newH_sub _ _ e
theorem kind_true {z : Str} (h : KindOk z) : kindB z = true := by
  unfold kindB
  rw [Bool.and_eq_true]
  refine ⟨decide_eq_true (by have := h.1; have := h.2.1; omega), List.all_eq_true.mpr fun c hc => decide_eq_true (h.2.2 c hc)⟩
theorem row_run {r : Run} (h : KindOk r.1) : (dRL r).run = decide (1 ≤ r.2 ∧ r.2 ≤ 1000000000000000000000000000000) := by
  show ((Dat.str r.1).kind && (Dat.int r.2).inI 1 1000000000000000000000000000000) = _
  rw [show (Dat.str r.1).kind = true from kind_true h, Bool.true_and]
  rfl
theorem row_state {r : Run} (h : KindOk r.1) : (dRL r).state = decide (1 ≤ r.2) := by
  show ((Dat.str r.1).kind && (Dat.int r.2).pos) = _
  rw [show (Dat.str r.1).kind = true from kind_true h, Bool.true_and]
  rfl
theorem key_row {hs : List Run} {i : Nat} {r : Run} (h : hs[i]? = some r) : keyAt (hs.map dRL) i = r.1 := by
  unfold keyAt
  rw [List.getElem?_map, h]
  rfl
theorem rows_true {hs : List Run} (l4 : hs.length ≤ 400) (ok : ∀ r ∈ hs, KindOk r.1 ∧ 1 ≤ r.2 ∧ r.2 ≤ 1000000000000000000000000000000) (a : Alt hs) : (Dat.lst (hs.map dRL)).seq = true := by
  unfold Dat.seq
  show (decide (((hs.map dRL).length : Int) ≤ 400) && ((hs.map dRL).all Dat.run && _)) = true
  rw [decide_eq_true (by rw [List.length_map]; omega), Bool.true_and, Bool.and_eq_true]
  refine ⟨List.all_eq_true.mpr fun e he => ?_, ?_⟩
  · obtain ⟨r, hr, rfl⟩ := List.mem_map.mp he
    rw [row_run (ok r hr).1]
    exact decide_eq_true (ok r hr).2
  · rw [all_map, List.all_eq_true]
    intro i hi
    have hi := List.mem_range.mp hi
    rw [List.length_map] at hi
    obtain ⟨x, hx⟩ : ∃ x, hs[i]? = some x := ⟨_, List.getElem?_eq_getElem (by omega)⟩
    obtain ⟨y, hy⟩ : ∃ y, hs[i + 1]? = some y := ⟨_, List.getElem?_eq_getElem (by omega)⟩
    unfold stepB
    rw [key_row hx, key_row hy, decide_eq_false (fun z => a i x y hx hy (V.str.inj z))]
    rfl
theorem rows_false {hs : List Run} {r : Run} (hr : r ∈ hs) (k : KindOk r.1) (z : r.2 = 0) : (Dat.lst (hs.map dRL)).seq = false := by
  unfold Dat.seq
  have : (hs.map dRL).all Dat.run = false := by
    rw [List.all_eq_false]
    refine ⟨dRL r, List.mem_map.mpr ⟨r, hr, rfl⟩, ?_⟩
    rw [row_run k, z]
    decide
  show (decide _ && ((hs.map dRL).all Dat.run && _)) = false
  rw [this, Bool.false_and, Bool.and_false]
theorem rows_fits {hs : List Run} (l4 : hs.length ≤ 400) (k : ∀ r ∈ hs, KindOk r.1) : (Dat.lst (hs.map dRL)).fits := fun l e => by
  cases e
  refine ⟨by rw [List.length_map]; omega, fun x hx => ?_⟩
  obtain ⟨r, hr, rfl⟩ := List.mem_map.mp hx
  intro a b e2
  cases e2
  have := (k r hr).2.1
  show r.1.length ≤ 4000
  omega
theorem row_fit {r : Run} (k : KindOk r.1) : (dRL r).fit2 := fun a b e2 => by
  cases e2
  have := k.2.1
  show r.1.length ≤ 4000
  omega
theorem vg_fits {d : Dat} (h : Vg d) : d.fits ∧ d.fit2 := by
  have f2 : ∀ e : Dat, e.g = true → e.fit2 := fun e he x y e2 => by
    have : e.parts = some [x, y] := by
      unfold Dat.two at e2
      cases hp : e.parts with
      | none => rw [hp] at e2; cases e2
      | some l =>
        rw [hp] at e2
        match l, e2 with
        | [a, b], e2 => cases e2; rfl
    exact g_fit (gs_mem ((parts_cnt this).2.2 he) x (by simp))
  rcases h with rfl | ⟨g, d1, c⟩
  · exact ⟨(fun l e => by cases e), fun x y e => by cases e⟩
  · refine ⟨fun l e => ?_, f2 d g⟩
    obtain ⟨c1, _, gg⟩ := parts_cnt e
    have := cnts_len l
    exact ⟨by omega, fun x hx => f2 x (gs_mem (gg g) x hx)⟩
theorem m60 (d : Dat) (h : Vg d) (hn : d ≠ .non) : d.prB ((10 : Int) ^ ((60 : Int).toNat)) = d.state := by
  have e60 : (10 : Int) ^ ((60 : Int).toNat) = 1000000000000000000000000000000000000000000000000000000000000 := by decide +kernel
  rw [e60]
  have es : d.state = match d.two with
    | some (x, y) => x.kind && y.pos
    | none => false := by
    cases d with
    | non => exact absurd rfl hn
    | _ => rfl
  rw [es]
  unfold Dat.prB
  cases ht : d.two with
  | none => rfl
  | some p =>
    obtain ⟨x, y⟩ := p
    have : d.parts = some [x, y] := by
      unfold Dat.two at ht
      cases hp : d.parts with
      | none => rw [hp] at ht; cases ht
      | some l =>
        rw [hp] at ht
        match l, ht with
        | [a, b], ht => cases ht; rfl
    show (x.kind && y.inI 1 _) = (x.kind && y.pos)
    congr 1
    rcases h with rfl | ⟨g, _⟩
    · cases this
    · have gy := gs_mem ((parts_cnt this).2.2 g) y (by simp)
      cases y with
      | int n =>
        rw [Dat.g] at gy
        have gy : n.natAbs < 10 ^ 60 := of_decide_eq_true gy
        have e : (10 : Nat) ^ 60 = 1000000000000000000000000000000000000000000000000000000000000 := by decide +kernel
        rw [e] at gy
        exact decide_eq_decide.mpr ⟨fun z => z.1, fun z => ⟨z, by omega⟩⟩
      | _ => rfl
end UP

set_option Elab.async false
set_option linter.all false
set_option maxRecDepth 100000
set_option maxHeartbeats 4000000
set_option pp.maxSteps 600
namespace UP
open PySem PySem.Spec PyProof.Rows L2
theorem p30 : (10 : Int) ^ ((30 : Int).toNat) = 1000000000000000000000000000000 := by decide +kernel
theorem p39 : (10 : Int) ^ ((39 : Int).toNat) = 1000000000000000000000000000000000000000 := by decide +kernel
theorem vg_it2 {e : Dat} (h : e.g = true ∧ e.dep ≤ 2 ∧ e.cnt ≤ 6 ∧ e.isI = false) : Vg e := .inr ⟨h.1, by omega, by omega⟩
theorem st_vg {H : Hp} {v : V} {st : Option Run} (h : StV H v st) (ok : StOk st) (lim : ∀ r, st = some r → r.2 ≤ 1000000000000000000000000000000000000000) : ∃ d, Rp H v d ∧ Vg d := by
  cases st with
  | none =>
    cases (show v = .non from h)
    exact ⟨.non, .non, vg_ofB (by decide)⟩
  | some r =>
    obtain ⟨t, rfl, ht⟩ := h
    have h1 := ok r rfl
    have h2 := lim r rfl
    exact ⟨dR r, .tup ht (.cons (.str _) (.cons (.int _) .nil)), vg_it2 (dR_g h1.1 (by omega))⟩
theorem dt_bls {H : Hp} {L : Addr} {bs : List Bool} {n : Nat} (h : H L = some (.lst (bs.map V.bl))) (l : bs.length ≤ 1000) : Dt H (n + 1) (.ref L) (.list (bs.map PyData.bool)) := by
  refine .inr (.inl ⟨L, _, _, rfl, h, rfl, ?_, by rw [List.length_map]; omega⟩)
  clear h l
  induction bs with
  | nil => exact .nil
  | cons b t ih =>
    refine .cons ?_ ih
    cases n with
    | zero => exact .inr (.inl ⟨b, rfl, rfl⟩)
    | succ n => exact .inl (.inr (.inl ⟨b, rfl, rfl⟩))
theorem lc_bl {K : PySem.W.Frag} {a : Addr} {xs : List V} {ds : List Dat} {sl : Nat} {te : TE} {vs : List Nat} {σ : L2.St} {H1 : Hp} {L : Addr} {Qd : Hp → Prop} (f : Dat → Bool) (hx : H1 a = some (.lst xs)) (hp : Paired (Rp H1) xs ds) (ll : ds.length ≤ 1000) (nL : H1 L = none) (hw : ∀ x, wipe ((wipe σ vs).set sl (some x)) vs = wipe σ vs)
    (step : ∀ x d H (R : VK), d ∈ ds → Same H1 H → Rp H x d → (∀ H4, Same H H4 → R (.bl (f d)) H4) → te ((wipe σ vs).set sl (some x)) H R)
    (hd : ∀ H, Same H1 H → H L = some (.lst ((ds.map f).map V.bl)) → Qd H) :
    ∃ W : Nat → Nat → Hp → Prop, (∃ m, W 0 m (upd H1 L (.lst []))) ∧ ∀ i m H, W i m H →
      ((Itl K a).stop i H ∧ Qd H) ∨ ((Itl K a).go i H ∧ ∃ Nx : Hp → Prop, (∀ H', Nx H' → ∃ m', m' < m ∧ W (i + 1) m' H') ∧ ∀ x H', (Itl K a).yld i H x H' → gName sl x (wipe σ vs) H' fun σ2 H2 => wipe σ2 vs = wipe σ vs ∧ tYes σ2 H2 fun b H3 =>
        if b = true then te σ2 H3 fun y H4 => ∃ acc, H4 L = some (.lst acc) ∧ acc.length < sizeLine ∧ Nx (upd H4 L (.lst (acc ++ [y]))) else Nx H3) := by
  have lx := Paired.len hp
  refine lc_list (K := K) (a := a) (xs := xs) (fun i H' => Same H1 H' ∧ H' L = some (.lst (((ds.take i).map f).map V.bl))) ⟨same_upd nL, upd_same⟩ (fun i H' _ p => .of (p.1 _ _ hx)) (fun i x H ex hP => ?_) (fun H hP => ?_)
  · obtain ⟨sm, hL⟩ := hP
    obtain ⟨d, ed, hd1⟩ := Paired.at hp ex
    refine ⟨hw x, yesT (step x d H _ (List.mem_of_getElem? ed) sm (hd1.same sm) fun H4 s4 => ⟨_, s4 _ _ hL, ?_, same_grow nL (sm.trans s4), ?_⟩)⟩
    · simp only [List.length_map, List.length_take]
      exact small (by omega)
    · rw [upd_same, take_snoc ed, List.map_append, List.map_append]
      rfl
  · obtain ⟨sm, hL⟩ := hP
    rw [lx, List.take_of_length_le (Nat.le_refl _)] at hL
    exact hd H sm hL
theorem cut_few {l : List Dat} : (cutD l none (some 3)).length ≤ 3 := by
  unfold cutD
  rw [List.length_take]
  have e : HT.sIx l.length l.length (some 3) ≤ 3 := by
    show (if (3 : Int) < 0 then ((3 : Int) + (l.length : Int)).toNat else min (3 : Int).toNat l.length) ≤ 3
    rw [if_neg (by decide)]
    exact Nat.min_le_left _ _
  omega
def kindsD : List Dat := [.non, .int 0, .lst [.str "a"], .tup [.str "a"], .bl true, .str "", .str "abcdefgh", .str "abcdefghi"]
theorem kindsD_fit : ∀ d ∈ kindsD, d.fit := by
  intro d hd
  simp only [kindsD, List.mem_cons, List.not_mem_nil, or_false] at hd
  rcases hd with rfl | rfl | rfl | rfl | rfl | rfl | rfl | rfl
  · exact True.intro
  · exact True.intro
  · exact True.intro
  · exact True.intro
  · exact True.intro
  · show Str.length _ ≤ 4000
    decide +kernel
  · show Str.length _ ≤ 4000
    decide +kernel
  · show Str.length _ ≤ 4000
    decide +kernel
theorem kindsD_are : kindsD.map Dat.kind = [false, false, false, false, false, false, true, false] := by decide +kernel
theorem spr_upd {H : Hp} {sp t : Addr} {o : HO} (z : Spr H sp) (n : t ≠ sp) : Spr (upd H t o) sp := by
  obtain ⟨x1, x2, x3, h1, rest⟩ := z
  exact ⟨x1, x2, x3, by rw [upd_ne n.symm]; exact h1, rest⟩
theorem rps_but {sp : Addr} {H H' : Hp} (z : Spr H sp) (b : But sp H H') {xs : List V} {ds : List Dat} (h : Paired (Rp H) xs ds) (v : ∀ d ∈ ds, Vg d) : Paired (Rp H') xs ds := by
  induction h with
  | nil => exact .nil
  | cons h _ ih => exact .cons (Rp.butS z b h (vg_calm (v _ (List.mem_cons_self ..)))) (ih fun d hd => v d (List.mem_cons_of_mem _ hd))
theorem dR_nv (r : Run) : (dR r).nv = true ∧ dR r ≠ .non := ⟨by unfold dR; rw [Dat.nv, Dat.nvs, Dat.nvs, Dat.nvs, Dat.nv, Dat.nv]; rfl, by intro z; cases z⟩
section
variable {X : Cx}
theorem pe_call0H {k : Nat} {x : Str} {sp : Sp} {p pos : Pos} (G : Has X.prog X.w X.K X.mg X.base k x [] sp) (hr : Room k X.A) (hg : Gl X x) (hdb : (x == ("__debug__" : Str)) = false := by decide) :
    PE X (.Call (.Name x p) [] [] pos) (tCall sp [] E0 tNil) := by
  obtain ⟨f, fd, g, kp, b, F⟩ := G
  exact pe_call0 F hr hg g kp b .nil pass0 hdb
end
section
variable {P : Program} {w : World} {K : PySem.W.Frag} {mg : Str → Option Value} {base : Heap}
/-! law: slots 0:script 1:spring 2:turn 3:some 4:sequence 5:values 6:states 7:before 8:due 9:held 10:run 11:found 12:value 13:k -/
abbrev s_law : Stmt := topS 26
theorem sc_law : FnScope ["script", "spring", "turn", "some", "sequence", "values", "states", "before", "due", "held", "run", "found", "value", "k"] ["script"] (defScope s_law) := ⟨rfl, rfl, rfl, by decide +kernel, rfl, by decide +kernel, by decide +kernel⟩
def sp_law (K : PySem.W.Frag) : Sp := fun vs H Q _ => ∃ (a : Addr) (ns : List Int), vs = [.ref a] ∧ SqL K H a (ns.map V.int) ∧ ns.length ≤ 63 ∧ ∀ H', Q (.bl true) H'
theorem fn_law {f : Addr} {fd : FuncData} (F : Fun K "law" "law" s_law f fd) (T : Tx mg)
    (G_law_spring : Has P w K mg base 1 "_law_spring" ["script"] (sp_law_spring K)) (G_law_draw : Has P w K mg base 1 "_law_draw" ["spring", "many"] sp_law_draw)
    (G_law_sequence : Has P w K mg base 2 "_law_sequence" ["spring", "most", "longest"] sp_law_sequence) (G_law_state : Has P w K mg base 2 "_law_state" ["spring", "longest"] sp_law_state)
    (G_law_dressed : Has P w K mg base 4 "_law_dressed" ["spring", "value"] (sp_law_dressed 2)) (G_law_same : Has P w K mg base 4 "_law_same" ["found", "due"] (sp_law_same 2))
    (G_law_no_sequence : Has P w K mg base 2 "_law_no_sequence" ["spring", "sequence"] sp_law_no_sequence) (G_law_no_state : Has P w K mg base 2 "_law_no_state" ["spring"] sp_law_no_state)
    (G_law_is_pair : Has P w K mg base 2 "_law_is_pair" ["value", "most"] sp_law_is_pair) (G_law_due : Has P w K mg base 3 "_law_due" ["value"] sp_law_due)
    (G_law_changed : Has P w K mg base 2 "_law_changed" ["spring", "sequence"] sp_law_changed) (G_law_names_right : Has P w K mg base 5 "_law_names_right" [] sp_law_names_right)
    (G_is_kind : Has P w K mg base 1 "is_kind" ["value"] spD_is_kind) (G_is_sequence : Has P w K mg base 4 "is_sequence" ["value"] spD_is_sequence) (G_is_state : Has P w K mg base 2 "is_state" ["value"] spD_is_state) :
    FnC P w K mg base f fd ["script"] (sp_law K) := by
  refine fnC_of F sc_law (fun vs H Q E h => ?_) (fun cdv outer s H vs Q E hr h => ?_)
  · obtain ⟨_, _, rfl, _⟩ := h
    rfl
  · obtain ⟨a, ns, rfl, hS, l63, q⟩ := h
    refine ⟨_, (pss_cons (ps_set (i := 1) sc_law.nd rfl (by first | exact Or.inl rfl | exact Or.inr rfl) (pe_callH G_law_spring (hr.mono (by omega)) (by rfl) (pa_cons (pv 0) pa_nil)))
    (pss_cons (ps_for PassesOwn.never rfl (pi_range1 (by rfl) T.n_range (pa_cons (pe_op op_add pe_int (pe_callB (call_min2 rfl) (by rfl) T.n_min (by decide +kernel) (pa_cons (pe_callB call_len_seq (by rfl) T.n_len (by decide +kernel) (pa_cons (pv 0) pa_nil)) (pa_cons pe_int pa_nil)))) pa_nil)) (pg_name (i := 2) sc_law.nd rfl (by first | exact Or.inl rfl | exact Or.inr rfl))
      (pss_cons (ps_set (i := 4) sc_law.nd rfl (by first | exact Or.inl rfl | exact Or.inr rfl) (pe_callH G_law_sequence (hr.mono (by omega)) (by rfl) (pa_cons (pv 1) (pa_cons (pe_ix ix_list (pe_lst (pa_cons pe_int (pa_cons pe_int pa_nil))) (pe_callH G_law_draw (hr.mono (by omega)) (by rfl) (pa_cons (pv 1) (pa_cons pe_int pa_nil))) (fun _ _ => rfl)) (pa_cons (pe_ix ix_list (pe_lst (pa_cons pe_int (pa_cons (pe_op op_pow pe_int pe_int) pa_nil))) (pe_callH G_law_draw (hr.mono (by omega)) (by rfl) (pa_cons (pv 1) (pa_cons pe_int pa_nil))) (fun _ _ => rfl)) pa_nil)))))
    (pss_cons (ps_set (i := 5) sc_law.nd rfl (by first | exact Or.inl rfl | exact Or.inr rfl) (pe_lst (pa_cons (pv 4) (pa_cons (pe_callH G_law_dressed (hr.mono (by omega)) (by rfl) (pa_cons (pv 1) (pa_cons (pv 4) pa_nil))) (pa_cons (pe_op op_cat (pv 4) (pe_slice sl_list (pv 4) (po_some (pe_un un_neg pe_int)) po_none)) (pa_cons (pe_op op_rep (pv 4) pe_int) (pa_cons (pe_tup pa_nil) (pa_cons pe_non (pa_cons pe_str (pa_cons pe_dnewK pa_nil))))))))))
    (pss_cons (ps_expr (pe_bm PySem.F.plainAttrs_list PySem.F.slot_list_append PySem.F.type_list_append mt_append (pv 5) (pa_cons (pe_callH G_law_no_sequence (hr.mono (by omega)) (by rfl) (pa_cons (pv 1) (pa_cons (pv 4) pa_nil))) pa_nil)))
    (pss_cons (ps_if (pt_cmpR (op_neD hr.units) (pv 4) (pe_lst pa_nil) (nomark _)) (pss_one (ps_set (i := 5) sc_law.nd rfl (by first | exact Or.inl rfl | exact Or.inr rfl) (pe_op op_cat (pv 5) (pe_lc (own := [("k", 13)]) rfl sc_law.nd (pi_range1 (by rfl) T.n_range (pa_cons pe_int pa_nil)) (blkOk_by (N := ["script", "spring", "turn", "some", "sequence", "values", "states", "before", "due", "held", "run", "found", "value", "k"]) (sc := defScope s_law) (by decide +kernel)) (fun _ _ _ _ _ => (pg_name (i := 13) sc_law.nd rfl (by first | exact Or.inl rfl | exact Or.inr rfl))) (fun _ _ _ _ _ => pts_nil) (fun _ _ _ _ _ => (pe_callH G_law_changed (hr.mono (by omega)) (by rfl) (pa_cons (pv 1) (pa_cons (pv 4) pa_nil)))))))) pss_nil)
    (pss_cons (ps_set (i := 6) sc_law.nd rfl (by first | exact Or.inl rfl | exact Or.inr rfl) (pe_lst (pa_cons (pe_callH G_law_state (hr.mono (by omega)) (by rfl) (pa_cons (pv 1) (pa_cons (pe_op op_pow pe_int pe_int) pa_nil))) (pa_cons (pe_callH G_law_no_state (hr.mono (by omega)) (by rfl) (pa_cons (pv 1) pa_nil)) (pa_cons (pv 4) (pa_cons (pe_slice sl_list (pv 4) po_none (po_some pe_int)) (pa_cons (pe_lst pa_nil) (pa_cons pe_non pa_nil))))))))
    (pss_cons (ps_set (i := 6) sc_law.nd rfl (by first | exact Or.inl rfl | exact Or.inr rfl) (pe_op op_cat (pv 6) (pe_slice sl_list (pe_lc (own := [("run", 10)]) rfl sc_law.nd (pi_seqE (pe_callH G_law_dressed (hr.mono (by omega)) (by rfl) (pa_cons (pv 1) (pa_cons (pv 4) pa_nil)))) (blkOk_by (N := ["script", "spring", "turn", "some", "sequence", "values", "states", "before", "due", "held", "run", "found", "value", "k"]) (sc := defScope s_law) (by decide +kernel)) (fun _ _ _ _ _ => (pg_name (i := 10) sc_law.nd rfl (by first | exact Or.inl rfl | exact Or.inr rfl))) (fun _ _ _ _ _ => pts_nil) (fun _ _ _ _ _ => (pv 10))) po_none (po_some pe_int))))
    (pss_cons (ps_set (i := 7) sc_law.nd rfl (by first | exact Or.inl rfl | exact Or.inr rfl) (pe_callB (call_reprR (by rfl) (room70 hr)) (by rfl) T.n_repr (by decide +kernel) (pa_cons (pe_lst (pa_cons (pv 5) (pa_cons (pv 6) pa_nil))) pa_nil)))
    (pss_cons (ps_if (pt_not (pt_val (pe_callH G_law_same (hr.mono (by omega)) (by rfl) (pa_cons (pe_lc (own := [("value", 12)]) rfl sc_law.nd (pi_list (pv 5)) (blkOk_by (N := ["script", "spring", "turn", "some", "sequence", "values", "states", "before", "due", "held", "run", "found", "value", "k"]) (sc := defScope s_law) (by decide +kernel)) (fun _ _ _ _ _ => (pg_name (i := 12) sc_law.nd rfl (by first | exact Or.inl rfl | exact Or.inr rfl))) (fun _ _ _ _ _ => pts_nil) (fun _ _ _ _ _ => (pe_callH G_is_sequence (hr.mono (by omega)) (by rfl) (pa_cons (pv 12) pa_nil)))) (pa_cons (pe_lc (own := [("value", 12)]) rfl sc_law.nd (pi_list (pv 5)) (blkOk_by (N := ["script", "spring", "turn", "some", "sequence", "values", "states", "before", "due", "held", "run", "found", "value", "k"]) (sc := defScope s_law) (by decide +kernel)) (fun _ _ _ _ _ => (pg_name (i := 12) sc_law.nd rfl (by first | exact Or.inl rfl | exact Or.inr rfl))) (fun _ _ _ _ _ => pts_nil) (fun _ _ _ _ _ => (pe_callH G_law_due (hr.mono (by omega)) (by rfl) (pa_cons (pv 12) pa_nil)))) pa_nil))))) (pss_one (ps_ret pe_bl)) pss_nil)
    (pss_cons (ps_setLc (i := 8) (own := [("value", 12)]) rfl sc_law.nd rfl rfl (sw_true rfl rfl rfl (by decide +kernel)) (pi_list (pv 6)) (blkOk_by (N := ["script", "spring", "turn", "some", "sequence", "values", "states", "before", "due", "held", "run", "found", "value", "k"]) (sc := defScope s_law) (by decide +kernel)) (fun _ _ _ _ _ => (pg_name (i := 12) sc_law.nd rfl (by first | exact Or.inl rfl | exact Or.inr rfl))) (fun _ _ _ _ _ => pts_nil) (fun _ _ _ _ _ => (pe_or (pe_cmpR op_isN (pv 12) pe_non (nomark _)) (pe_one (pe_callH G_law_is_pair (hr.mono (by omega)) (by rfl) (pa_cons (pv 12) (pa_cons (pe_op op_pow pe_int pe_int) pa_nil)))))))
    (pss_cons (ps_if (PW.pt (pw_or (pt_not (pt_val (pe_callH G_law_same (hr.mono (by omega)) (by rfl) (pa_cons (pe_lc (own := [("value", 12)]) rfl sc_law.nd (pi_list (pv 6)) (blkOk_by (N := ["script", "spring", "turn", "some", "sequence", "values", "states", "before", "due", "held", "run", "found", "value", "k"]) (sc := defScope s_law) (by decide +kernel)) (fun _ _ _ _ _ => (pg_name (i := 12) sc_law.nd rfl (by first | exact Or.inl rfl | exact Or.inr rfl))) (fun _ _ _ _ _ => pts_nil) (fun _ _ _ _ _ => (pe_callH G_is_state (hr.mono (by omega)) (by rfl) (pa_cons (pv 12) pa_nil)))) (pa_cons (pv 8) pa_nil))))) (pw_or1 (pt_cmpR op_ne (pe_callB (call_reprR (by rfl) (room70 hr)) (by rfl) T.n_repr (by decide +kernel) (pa_cons (pe_lst (pa_cons (pv 5) (pa_cons (pv 6) pa_nil))) pa_nil)) (pv 7) (nomark _))))) (pss_one (ps_ret pe_bl)) pss_nil)
    (pss_cons (ps_setLc (i := 9) (own := [("run", 10)]) rfl sc_law.nd rfl rfl (sw_true rfl rfl rfl (by decide +kernel)) (pi_list (pv 4)) (blkOk_by (N := ["script", "spring", "turn", "some", "sequence", "values", "states", "before", "due", "held", "run", "found", "value", "k"]) (sc := defScope s_law) (by decide +kernel)) (fun _ _ _ _ _ => (pg_name (i := 10) sc_law.nd rfl (by first | exact Or.inl rfl | exact Or.inr rfl))) (fun _ _ _ _ _ => pts_nil) (fun _ _ _ _ _ => (pe_callTy (call_list_ofK (K := K) rfl) (by rfl) T.n_list (by decide +kernel) (pa_cons (pv 10) pa_nil))))
    (pss_one (ps_for PassesOwn.never rfl (pi_list (pe_slice sl_list (pv 9) (po_some (pe_un un_neg pe_int)) po_none)) (pg_name (i := 10) sc_law.nd rfl (by first | exact Or.inl rfl | exact Or.inr rfl))
      (pss_cons (ps_asg pe_int (pg_sub (pv 10) pe_int set_list))
    (pss_cons (ps_set (i := 11) sc_law.nd rfl (by first | exact Or.inl rfl | exact Or.inr rfl) (pe_lst (pa_cons (pe_callH G_is_sequence (hr.mono (by omega)) (by rfl) (pa_cons (pv 9) pa_nil)) (pa_cons (pe_callH G_is_state (hr.mono (by omega)) (by rfl) (pa_cons (pv 10) pa_nil)) pa_nil))))
    (pss_cons (ps_asg pe_int (pg_sub (pv 10) pe_int set_list))
    (pss_one (ps_if (pt_not (pt_val (pe_callH G_law_same (hr.mono (by omega)) (by rfl) (pa_cons (pe_op op_cat (pv 11) (pe_lst (pa_cons (pe_callH G_is_sequence (hr.mono (by omega)) (by rfl) (pa_cons (pv 9) pa_nil)) (pa_cons (pe_callH G_is_state (hr.mono (by omega)) (by rfl) (pa_cons (pv 10) pa_nil)) pa_nil)))) (pa_cons (pe_lst (pa_cons pe_bl (pa_cons pe_bl (pa_cons pe_bl (pa_cons pe_bl pa_nil))))) pa_nil))))) (pss_one (ps_ret pe_bl)) pss_nil)))))))))))))))))))
    (pss_cons (ps_setLc (i := 3) (own := [("value", 12)]) rfl sc_law.nd rfl rfl (sw_true rfl rfl rfl (by decide +kernel)) (pi_list (pe_lst (pa_cons pe_non (pa_cons pe_int (pa_cons (pe_lst (pa_cons pe_str pa_nil)) (pa_cons (pe_tup (pa_cons pe_str pa_nil)) (pa_cons pe_bl (pa_cons pe_str (pa_cons pe_str (pa_cons pe_str pa_nil)))))))))) (blkOk_by (N := ["script", "spring", "turn", "some", "sequence", "values", "states", "before", "due", "held", "run", "found", "value", "k"]) (sc := defScope s_law) (by decide +kernel)) (fun _ _ _ _ _ => (pg_name (i := 12) sc_law.nd rfl (by first | exact Or.inl rfl | exact Or.inr rfl))) (fun _ _ _ _ _ => pts_nil) (fun _ _ _ _ _ => (pe_callH G_is_kind (hr.mono (by omega)) (by rfl) (pa_cons (pv 12) pa_nil))))
    (pss_one (ps_ret (pe_and (pe_cmpR (op_eqD hr.units) (pv 3) (pe_lst (pa_cons pe_bl (pa_cons pe_bl (pa_cons pe_bl (pa_cons pe_bl (pa_cons pe_bl (pa_cons pe_bl (pa_cons pe_bl (pa_cons pe_bl pa_nil))))))))) (nomark _)) (pe_one (pe_call0H G_law_names_right (hr.mono (by omega)) (by rfl))))))))), ?_⟩
    refine ⟨_, rfl, a, ns, rfl, hS, l63, fun H1 sp s1 nsp z1 => ?_⟩
    refine ⟨_, rfl, a, _, rfl, .inl (s1.seq hS), _, _, rfl, _, _, rfl, rfl, _, rfl, ?_, ?_, for_range (lo := 0) (n := _) (fun i σ H' => ∃ y2 y4 y5 y6 y7 y8 y9 y10 y11, σ = [some (.ref a), some (.ref sp), y2, none, y4, y5, y6, y7, y8, y9, y10, y11, none, none] ∧ Spr H' sp)
      ⟨none, none, none, none, none, none, none, none, none, rfl, z1⟩ (fun i σ H2 hi hP => ?_) (fun σ H2 hP => ?_)⟩
    · rw [List.length_map]
      split <;> omega
    · rw [List.length_map]
      split <;> omega
    · obtain ⟨y2, y4, y5, y6, y7, y8, y9, y10, y11, rfl, z2⟩ := hP
      clear z1
      -- sequence
      refine ⟨_, rfl, (by show 2 ≤ sizeLine; decide), fun l nl => ⟨_, rfl, sp, 2, rfl, z2.same (same_upd nl), by decide, by decide, fun H3 r3 b3 z3 r30 r31 => ?_⟩⟩
      obtain ⟨m, em, m0, m4⟩ : ∃ m, atI [V.int 6, .int 400] r3 = some (.int m) ∧ 0 ≤ m ∧ m ≤ 400 := by
        rcases (show r3 = 0 ∨ r3 = 1 by omega) with e | e
        · rw [e]; exact ⟨6, rfl, by decide, by decide⟩
        · rw [e]; exact ⟨_, rfl, by decide, by decide⟩
      refine ⟨l, _, r3, _, rfl, rfl, .of (b3 _ _ (Spr.ne z2 nl) upd_same), em, ?_⟩
      refine ⟨_, _, rfl, rfl, ⟨by decide, by decide, by decide⟩, (by show 2 ≤ sizeLine; decide), fun l2 nl2 => ⟨_, rfl, sp, 2, rfl, z3.same (same_upd nl2), by decide, by decide, fun H4 r4 b4 z4 r40 r41 => ?_⟩⟩
      obtain ⟨g, eg, g1, g2⟩ : ∃ g, atI [V.int 5, .int ((10 : Int) ^ ((30 : Int).toNat))] r4 = some (.int g) ∧ 1 ≤ g ∧ g ≤ 1000000000000000000000000000000 := by
        rw [p30]
        rcases (show r4 = 0 ∨ r4 = 1 by omega) with e | e
        · rw [e]; exact ⟨5, rfl, by decide, by decide⟩
        · rw [e]; exact ⟨_, rfl, by decide, by decide⟩
      refine ⟨l2, _, r4, _, rfl, rfl, .of (b4 _ _ (Spr.ne z3 nl2) upd_same), eg, ?_⟩
      refine ⟨sp, m, g, rfl, z4, m0, m4, g1, g2, fun H5 p rs b5 z5 np hR ok lm lg => ?_⟩
      have l4 : rs.length ≤ 400 := ok.1
      clear b3 z3 b4 b5 z4 np lm lg eg em g1 g2 m0 m4 z2 nl nl2
      have kk : ∀ r ∈ rs, KindOk r.1 ∧ r.2.natAbs < 10 ^ 60 := fun r hr => ⟨(ok.2.1 r hr).1, by have := (ok.2.1 r hr).2; omega⟩
      have hXg : ∀ e ∈ rs.map dR, e.g = true ∧ e.dep ≤ 2 ∧ e.cnt ≤ 6 ∧ e.isI = false := fun e he => by
        obtain ⟨r, hr, rfl⟩ := List.mem_map.mp he
        exact dR_g (kk r hr).1 (kk r hr).2
      have hXn : ∀ e ∈ rs.map dR, e.nv = true ∧ e ≠ .non := fun e he => by
        obtain ⟨r, hr, rfl⟩ := List.mem_map.mp he
        exact dR_nv r
      have lX : (rs.map dR).length ≤ 400 := by rw [List.length_map]; exact l4
      -- values
      refine ⟨_, rfl, _, rfl, _, rfl, sp, .ref p, dSq rs, rfl, z5, sim_seq z5 hR (by omega), fun H6 v6 b6 z6 h6 => ?_⟩
      have hR6 := hR.but z5 b6
      have hA6 := rp_runs hR6
      obtain ⟨d6, l6, rp6, _, vg6, _, _⟩ := runsG_rp (sim_runs h6) kk l4
      refine (lits_cons (lit_cat (lit_var rfl hA6) (lit_cut (lit_var rfl hA6) lito_neg lito_none) (by have := cutD_len (rs.map dR) (some (-1)) none; omega)) (lits_cons (lit_rep (lit_var rfl hA6) (by decide) (by decide) (by show (rs.map dR).length * 2 ≤ 1000; omega)) (lits_cons (lit_tup lits_nil (Nat.le_of_ble_eq_true rfl)) (lits_cons lit_non (lits_cons lit_str (lits_cons lit_dic lits_nil)))))) H6 _ (Same.refl _) (fun H7 vs7 s7 r7 => ?_)
      have l7 : vs7.length = 6 := Paired.len r7
      refine ⟨smallE (by simp only [List.length_cons]; omega), fun B0 nB => ?_⟩
      have hR7 := hR6.same s7
      have z7 := z6.same s7
      have all7 : Paired (Rp H7) (.ref p :: v6 :: vs7) (.lst (rs.map dR) :: d6 :: [.lst (rs.map dR ++ cutD (rs.map dR) (some (-1)) none), .lst (List.replicate (2 : Int).toNat (rs.map dR)).flatten, .tup [], .non, .str "ab", .dic]) := .cons (hA6.same s7) (.cons (rp6.same s7) r7)
      have five : (V.ref p :: v6 :: vs7)[5]? = some .non := by
        obtain ⟨x, ex, hx⟩ := Paired.at' (i := 5) all7 rfl
        cases hx
        exact ex
      have vg8 : ∀ d ∈ (Dat.lst (rs.map dR) :: d6 :: [.lst (rs.map dR ++ cutD (rs.map dR) (some (-1)) none), .lst (List.replicate (2 : Int).toNat (rs.map dR)).flatten, .tup [], .non, .str "ab", .dic]), Vg d := by
        intro d hd
        simp only [List.mem_cons, List.not_mem_nil, or_false] at hd
        rcases hd with rfl | rfl | rfl | rfl | rfl | rfl | rfl | rfl
        · exact vg_list hXg (by omega)
        · exact vg6
        · refine vg_list (fun e he => ?_) (by have := cutD_len (rs.map dR) (some (-1)) none; rw [List.length_append]; omega)
          rcases List.mem_append.mp he with z | z
          · exact hXg e z
          · exact hXg e (cutD_mem z)
        · refine vg_list (fun e he => ?_) ?_
          · obtain ⟨l, hl, he⟩ := List.mem_flatten.mp he
            rw [(List.mem_replicate.mp hl).2] at he
            exact hXg e he
          · show ((rs.map dR) ++ ((rs.map dR) ++ [])).length ≤ 803
            simp only [List.length_append, List.length_nil]
            omega
        · exact vg_ofB (by decide)
        · exact vg_ofB (by decide)
        · exact vg_ofB (by decide +kernel)
        · exact .inl rfl
      generalize hW8 : (V.ref p :: v6 :: vs7) = W8 at *
      generalize hD8 : (Dat.lst (rs.map dR) :: d6 :: [.lst (rs.map dR ++ cutD (rs.map dR) (some (-1)) none), .lst (List.replicate (2 : Int).toNat (rs.map dR)).flatten, .tup [], .non, .str "ab", .dic]) = ds8 at *
      have ld8 : ds8.length = 8 := by rw [← hD8]; rfl
      have lw8 : W8.length = 8 := by rw [Paired.len all7]; exact ld8
      clear hW8 hD8 r7 rp6 vg6 h6 hA6 hR6 b6 z6 z5 hR
      have nBs := Spr.ne z7 nB
      have z8 := z7.same (same_upd (o := .lst W8) nB)
      have hR8 := hR7.same (same_upd (o := .lst W8) nB)
      -- one more
      refine ⟨_, rfl, .inl ⟨rfl, _, SqL.of upd_same⟩, _, rfl, _, rfl, sp, p, rs, rfl, z8, hR8, l4, fun H9 v9 d9 b9 z9 hd9 hv9 => ?_⟩
      have hB9 : H9 B0 = some (.lst W8) := b9 _ _ nBs upd_same
      obtain ⟨vg9, nv9⟩ := noSeq_ok hXg hXn lX d9 hd9
      have sG := noA_new (o := .lst W8) nB
      have zG : Spr (noA B0 (upd H7 B0 (.lst W8))) sp := noA_spr z8 nBs
      have bG : But sp (noA B0 (upd H7 B0 (.lst W8))) (noA B0 H9) := noA_but b9
      have hRG : Runs (noA B0 H9) p rs := (hR7.same sG).but zG bG
      have allG : Paired (Rp (noA B0 H9)) (W8 ++ [v9]) (ds8 ++ [d9]) := Paired.app (rps_but zG bG (rps_same sG all7) vg8) (.cons (Rp.noA hB9 five hv9 nv9) .nil)
      have vg9' : ∀ d ∈ ds8 ++ [d9], Vg d := fun d hd => by
        rcases List.mem_append.mp hd with z | z
        · exact vg8 d z
        · rw [List.mem_singleton.mp z]; exact vg9
      refine ⟨B0, _, _, rfl, rfl, hB9, by rw [lw8]; exact small (by decide), ?_⟩
      have sX : Same (noA B0 H9) (upd H9 B0 (.lst (W8 ++ [v9]))) := by
        have := noA_sub (B0 := B0) (H := upd H9 B0 (.lst (W8 ++ [v9])))
        rw [noA_upd] at this
        exact this
      have zX := spr_upd (o := .lst (W8 ++ [v9])) z9 nBs
      have hRX := hRG.same sX
      have allX := rps_same sX allG
      have hBX : (upd H9 B0 (.lst (W8 ++ [v9]))) B0 = some (.lst (W8 ++ [v9])) := upd_same
      have ld9 : (ds8 ++ [d9]).length = 9 := by rw [List.length_append, ld8]; rfl
      have lw9 : (W8 ++ [v9]).length = 9 := by rw [List.length_append, lw8]; rfl
      generalize upd H9 B0 (.lst (W8 ++ [v9])) = HX at *
      generalize W8 ++ [v9] = W9 at *
      generalize ds8 ++ [d9] = ds9 at *
      clear sX allG hRG bG zG sG hv9 hB9 z9 b9 z8 hR8 hR7 z7 all7 nB vg8 five nv9 vg9 hd9
      -- changed ones
      dsimp only
      refine if_gen (fun σ' H' => ∃ B W ds, σ' = [some (.ref a), some (.ref sp), some (.int (0 + i)), none, some (.ref p), some (.ref B), y6, y7, y8, y9, y10, y11, none, none] ∧ Spr H' sp ∧ Runs H' p rs ∧ H' B = some (.lst W) ∧ Paired (Rp H') W ds ∧ (∀ d ∈ ds, Vg d) ∧ ds.length ≤ 13 ∧ B ≠ sp) (fun R k => ?_) (fun σ' H' hO => ?_)
      · refine ⟨_, rfl, Nat.zero_le _, fun e ne => ?_⟩
        have se := same_upd (o := .lst []) ne
        obtain ⟨xs, hx, hpr⟩ := hRX
        refine ⟨.list (rs.map dRun), .list [], .lst (.of (se _ _ hx)) (dp_all (prs_same se hpr)), .lst (.of upd_same) .nil, shaped_runs (fun r hr => (kk r hr).1), shaped_nil, _, rfl, ?_⟩
        rw [eqv_nil]
        have hRX : Runs HX p rs := ⟨xs, hx, hpr⟩
        have zE := zX.same se
        have hRE := hRX.same se
        have allE := rps_same se allX
        have hBE := se _ _ hBX
        generalize upd HX e (.lst []) = HE at *
        by_cases h0 : rs = []
        · refine iteN (by rw [h0]; rfl) (k _ _ ⟨B0, W9, ds9, rfl, zE, hRE, hBE, allE, vg9', by omega, nBs⟩)
        have hie : rs.isEmpty = false := by
          cases rs with
          | nil => exact absurd rfl h0
          | cons => rfl
        refine iteP (by rw [hie]; rfl) ⟨_, rfl, 4, rfl, by decide, by decide, fun L nL => ?_⟩
        have nLs := Spr.ne zE nL
        refine lc_range (lo := 0) (n := (4 : Int).toNat) (fun i H' => But sp HE H' ∧ Spr H' sp ∧ ∃ acc es, H' L = some (.lst acc) ∧ Paired (Rp (noA L H')) acc es ∧ (∀ d ∈ es, Vg d) ∧ es.length = i) ⟨sb (same_upd nL), zE.same (same_upd nL), [], [], upd_same, .nil, (fun d hd => by cases hd), rfl⟩ (fun j H10 hj hP => ?_) (fun H10 hP => ?_)
        · obtain ⟨b10, z10, acc, es, hL, hpe, vge, le⟩ := hP
          have hj : j < 4 := hj
          refine ⟨rfl, yesT ⟨_, rfl, _, rfl, sp, p, rs, rfl, z10, hRE.but zE b10, h0, l4, kk, fun H11 v11 d11 b11 z11 hv11 vg11 => ⟨_, b11 _ _ nLs hL, ?_, ?_, spr_upd z11 nLs, acc ++ [v11], es ++ [d11], upd_same, ?_, ?_, ?_⟩⟩⟩
          · rw [Paired.len hpe, le]
            exact small (by omega)
          · intro b o nb eb
            rw [upd_ne (ne_of_none eb nL)]
            exact b11 _ _ nb (b10 _ _ nb eb)
          · rw [noA_upd]
            exact Paired.app (rps_but (noA_spr z10 nLs) (noA_but b11) hpe vge) (.cons (hv11.same (newH_noA hL)) .nil)
          · intro d hd
            rcases List.mem_append.mp hd with z | z
            · exact vge d z
            · rw [List.mem_singleton.mp z]; exact vg11
          · rw [List.length_append, le]; rfl
        · obtain ⟨b10, z10, acc, es, hL, hpe, vge, le⟩ := hP
          have le : es.length = 4 := le
          have la : acc.length = 4 := by rw [Paired.len hpe]; exact le
          have nB0s : B0 ≠ sp := nBs
          refine ⟨B0, L, _, _, rfl, rfl, b10 _ _ nB0s hBE, hL, smallE (by omega), fun p2 np2 => k _ _ ⟨p2, W9 ++ acc, ds9 ++ es, rfl, z10.same (same_upd np2), (hRE.but zE b10).same (same_upd np2), upd_same, ?_, ?_, ?_, Spr.ne z10 np2⟩⟩
          · exact rps_same (same_upd np2) (Paired.app (rps_but zE b10 allE vg9') (rps_same noA_sub hpe))
          · intro d hd
            rcases List.mem_append.mp hd with z | z
            · exact vg9' d z
            · exact vge d z
          · rw [List.length_append]; omega
      clear allX hBX hRX zX nBs lw9 ld9 vg9' lw8 ld8
      obtain ⟨B, W, ds, rfl, z11, hR11, hB11, hp11, vgd, ld, nBs⟩ := hO
      -- states
      refine ⟨_, rfl, _, _, rfl, rfl, ⟨by decide, by decide, by decide⟩, sp, _, rfl, z11, (by rw [p39]; decide), (by rw [p39]; exact wide8 (by decide) (by decide)), fun H12 v12 st b12 z12 hv12 so sle => ?_⟩
      obtain ⟨d12, rp12, vg12⟩ := st_vg hv12 so (fun r hr => by have := sle r hr; rw [p39] at this; exact this)
      refine ⟨_, rfl, sp, rfl, z12, fun H13 v13 d13 b13 z13 hd13 hv13 => ?_⟩
      have vg13 : Vg d13 := vg_ofB (noState_vg d13 hd13)
      have rp13 := hv13.same newH_sub
      have rp12 := Rp.butS z12 b13 rp12 (vg_calm vg12)
      have bb := b12.trans b13
      have hR13 := hR11.but z11 bb
      have hp13 := rps_but z11 bb hp11 vgd
      have hA13 := rp_runs hR13
      have hB13 := bb _ _ nBs hB11
      refine (lits_cons (lit_var rfl hA13) (lits_cons (lit_cut (lit_var rfl hA13) lito_none lito_int) (lits_cons (lit_lst lits_nil (Nat.le_of_ble_eq_true rfl)) (lits_cons lit_non lits_nil)))) H13 _ (Same.refl _) (fun H14 vs14 s14 r14 => ?_)
      have l14 : vs14.length = 4 := Paired.len r14
      refine ⟨smallE (by simp only [List.length_cons]; omega), fun S0 nS => ?_⟩
      have sS := same_upd (o := .lst (v12 :: v13 :: vs14)) nS
      have all15 := rps_same sS (Paired.cons (rp12.same s14) (.cons (rp13.same s14) r14))
      have hS15 : (upd H14 S0 (.lst (v12 :: v13 :: vs14))) S0 = some (.lst (v12 :: v13 :: vs14)) := upd_same
      have s15 := s14.trans sS
      have z15 := z13.same s15
      have hR15 := hR13.same s15
      have hp15 := rps_same s15 hp13
      have hB15 := s15 _ _ hB13
      have nSs := Spr.ne (z13.same s14) nS
      have vg15 : ∀ d ∈ (d12 :: d13 :: [.lst (rs.map dR), .lst (cutD (rs.map dR) none (some 1)), .lst [], .non]), Vg d := by
        intro d hd
        simp only [List.mem_cons, List.not_mem_nil, or_false] at hd
        rcases hd with rfl | rfl | rfl | rfl | rfl | rfl
        · exact vg12
        · exact vg13
        · exact vg_list hXg (by omega)
        · exact vg_list (fun e he => hXg e (cutD_mem he)) (by have := cutD_len (rs.map dR) none (some 1); omega)
        · exact vg_ofB (by decide)
        · exact vg_ofB (by decide)
      have ld15 : (d12 :: d13 :: [Dat.lst (rs.map dR), .lst (cutD (rs.map dR) none (some 1)), .lst [], .non]).length = 6 := rfl
      generalize (d12 :: d13 :: [Dat.lst (rs.map dR), .lst (cutD (rs.map dR) none (some 1)), .lst [], .non]) = es15 at *
      generalize (v12 :: v13 :: vs14) = Y15 at *
      generalize upd H14 S0 (.lst Y15) = H15 at *
      clear s15 sS s14 r14 l14 nS hp13 hB13 hR13 hA13 rp12 rp13 bb hv13 hv12 b13 b12 z12 z13 hp11 hB11 hR11 z11
      -- and some runs
      refine ⟨_, rfl, _, rfl, _, rfl, sp, .ref p, dSq rs, rfl, z15, sim_seq z15 hR15 (by omega), fun H16 v16 b16 z16 h16 => ?_⟩
      have hR16 := hR15.but z15 b16
      obtain ⟨d16, l16, rp16, hp16, _, ll16, g16⟩ := runsG_rp (sim_runs h16) kk l4
      obtain ⟨qa, xq, rfl, hq, hpq⟩ := rp16.seq hp16
      have hpd16 := rps_but z15 b16 hp15 vgd
      have hpe16 := rps_but z15 b16 all15 vg15
      have hB16 := b16 _ _ nBs hB15
      have hS16 := b16 _ _ nSs hS15
      have lxq := Paired.len hpq
      refine ⟨qa, xq, rfl, hq, fun J wk D nD => lc_wk wk (fun i H' => Same H16 H' ∧ H' D = some (.lst (xq.take i))) (fun _ _ h => h.1) ⟨same_upd nD, upd_same⟩ (fun i x H17 ex hP => ?_) (fun H17 hP => ?_)⟩
      · obtain ⟨sm, hD⟩ := hP
        refine ⟨rfl, yesT ⟨_, rfl, _, hD, ?_, same_grow nD sm, ?_⟩⟩
        · rw [List.length_take]
          exact small (by omega)
        · rw [upd_same, take_snoc ex]
      obtain ⟨s17, hD⟩ := hP
      rw [List.take_length] at hD
      refine ⟨3, rfl, D, _, rfl, .of hD, fun c nc => ?_⟩
      have s18 := s17.trans (same_upd (o := .lst (cutV xq none (some 3))) nc)
      have lc3 := cut_few (l := l16)
      have hpc := paired_cut (lo := none) (hi := some 3) hpq
      have lcv := Paired.len hpc
      have lY := Paired.len hpe16
      refine ⟨S0, c, _, _, rfl, rfl, s18 _ _ hS16, upd_same, smallE (by omega), fun S nS => ?_⟩
      have s19 := s18.trans (same_upd (o := .lst (Y15 ++ cutV xq none (some 3))) nS)
      have hpS := rps_same s19 (Paired.app hpe16 hpc)
      have hS : (upd (upd H17 c (.lst (cutV xq none (some 3)))) S (.lst (Y15 ++ cutV xq none (some 3)))) S = some (.lst (Y15 ++ cutV xq none (some 3))) := upd_same
      have vge : ∀ d ∈ es15 ++ cutD l16 none (some 3), Vg d := fun d hd => by
        rcases List.mem_append.mp hd with z | z
        · exact vg15 d z
        · exact vg_it2 (g16 d (cutD_mem z))
      have le : (es15 ++ cutD l16 none (some 3)).length ≤ 9 := by rw [List.length_append]; omega
      have z19 := z16.same s19
      have hR19 := hR16.same s19
      have hp19 := rps_same s19 hpd16
      have hB19 := s19 _ _ hB16
      generalize es15 ++ cutD l16 none (some 3) = es at *
      generalize Y15 ++ cutV xq none (some 3) = Y at *
      generalize upd (upd H17 c (.lst (cutV xq none (some 3)))) S (.lst Y) = H19 at *
      clear s19 s18 s17 hD nD nc lc3 hpc lcv lY hS16 hB16 hpe16 hpd16 hpq hq hp16 rp16 h16 hR16 z16 b16 z15 hR15 all15 hS15 hp15 hB15 nS vg15 ld15 lxq g16 ll16
      obtain ⟨k1, k2, k3⟩ := both_fit vgd vge (by omega)
      have ld' : ds.length ≤ 1000 := by omega
      have le' : es.length ≤ 1000 := by omega
      -- before
      refine ⟨_, rfl, _, rfl, (by show 2 ≤ sizeLine; decide), fun l nl => ⟨l, .lst [.lst ds, .lst es], rfl, .lst upd_same (.cons (.lst (same_upd nl _ _ hB19) (rps_same (same_upd nl) hp19)) (.cons (.lst (same_upd nl _ _ hS) (rps_same (same_upd nl) hpS)) .nil)), k1, k2, k3, ?_⟩⟩
      have sl := same_upd (o := .lst [.ref B, .ref S]) nl
      have z20 := z19.same sl
      have hR20 := hR19.same sl
      have hp20 := rps_same sl hp19
      have hB20 := sl _ _ hB19
      have hpS20 := rps_same sl hpS
      have hS20 := sl _ _ hS
      generalize upd H19 l (.lst [.ref B, .ref S]) = H20 at *
      clear sl nl z19 hR19 hp19 hB19 hpS hS
      -- sequences
      refine ⟨_, rfl, B, rfl, ⟨W, .of hB20⟩, fun L1 n1 => lc_bl (K := K) Dat.seq hB20 hp20 ld' n1 (fun x => rfl) (fun x d H R hm sm hv k => ⟨_, rfl, x, d, rfl, hv, (vg_fits (vgd d hm)).1, k⟩) (fun H21 s21 h1 => ?_)⟩
      refine ⟨_, rfl, B, rfl, ⟨W, .of (s21 _ _ hB20)⟩, fun L2 n2 => lc_bl (K := K) Dat.seq (s21 _ _ hB20) (rps_same s21 hp20) ld' n2 (fun x => rfl) (fun x d H R hm sm hv k => ⟨_, rfl, x, d, rfl, hv, vgd d hm, k⟩) (fun H22 s22 h2 => ?_)⟩
      refine ⟨.ref L1, .ref L2, .list ((ds.map Dat.seq).map .bool), rfl, dt_bls (s22 _ _ h1) (by rw [List.length_map]; exact ld'), dt_bls h2 (by rw [List.length_map]; exact ld'), fun H23 s23 => ⟨true, rfl, iteF ?_⟩⟩
      have s24 := s21.trans (s22.trans s23)
      have z24 := z20.same s24
      have hR24 := hR20.same s24
      have hp24 := rps_same s24 hp20
      have hB24 := s24 _ _ hB20
      have hpS24 := rps_same s24 hpS20
      have hS24 := s24 _ _ hS20
      clear s24 s23 h2 h1 n1 n2 s22 s21 z20 hR20 hp20 hB20 hpS20 hS20
      -- due
      refine ⟨_, rfl, S, rfl, ⟨Y, .of hS24⟩, fun L3 n3 => lc_bl (K := K) Dat.state hS24 hpS24 le' n3 (fun x => rfl) (fun x d H R hm sm hv k => ?_) (fun H25 s25 h3 => ?_)⟩
      · by_cases dn : d = .non
        · subst dn
          cases hv
          exact ⟨_, rfl, rfl, _, rfl, iteP rfl (k H (Same.refl H))⟩
        have vn : decide (x = V.non) = false := by
          refine decide_eq_false fun z => dn ?_
          subst z
          cases hv
          rfl
        refine ⟨_, rfl, rfl, _, rfl, iteN vn ⟨_, rfl, _, _, rfl, rfl, ⟨by decide, by decide, by decide⟩, x, d, _, rfl, hv, vge d hm, fun H4 s4 => ?_⟩⟩
        rw [m60 d (vge d hm) dn]
        exact k H4 s4
      refine ⟨_, rfl, S, rfl, ⟨Y, .of (s25 _ _ hS24)⟩, fun L4 n4 => lc_bl (K := K) Dat.state (s25 _ _ hS24) (rps_same s25 hpS24) le' n4 (fun x => rfl) (fun x d H R hm sm hv k => ⟨_, rfl, x, d, rfl, hv, (vg_fits (vge d hm)).2, k⟩) (fun H26 s26 h4 => ?_)⟩
      refine ⟨_, rfl, .ref L4, .ref L3, .list ((es.map Dat.state).map .bool), rfl, dt_bls h4 (by rw [List.length_map]; exact le'), dt_bls (s26 _ _ h3) (by rw [List.length_map]; exact le'), fun H27 s27 => ⟨true, rfl, iteF ?_⟩⟩
      have s28 := s25.trans (s26.trans s27)
      have z28 := z24.same s28
      have hR28 := hR24.same s28
      have hp28 := rps_same s28 hp24
      have hB28 := s28 _ _ hB24
      have hpS28 := rps_same s28 hpS24
      have hS28 := s28 _ _ hS24
      clear s28 s27 h4 h3 n3 n4 s26 s25 z24 hR24 hp24 hB24 hpS24 hS24
      refine ⟨_, rfl, _, rfl, (by show 2 ≤ sizeLine; decide), fun l nl => ⟨l, .lst [.lst ds, .lst es], rfl, .lst upd_same (.cons (.lst (same_upd nl _ _ hB28) (rps_same (same_upd nl) hp28)) (.cons (.lst (same_upd nl _ _ hS28) (rps_same (same_upd nl) hpS28)) .nil)), k1, k2, k3, _, rfl, rfl, _, rfl, iteN (by rw [decide_eq_true rfl]; rfl) ?_⟩⟩
      have z29 := z28.same (same_upd (o := .lst [.ref B, .ref S]) nl)
      have hR29 := hR28.same (same_upd (o := .lst [.ref B, .ref S]) nl)
      generalize upd H27 l (.lst [.ref B, .ref S]) = H29 at *
      clear z28 hR28 hp28 hB28 hpS28 hS28 nl k1 k2 k3
      -- held
      obtain ⟨xs, hx, hp⟩ := hR29
      have lx : xs.length = rs.length := Paired.len hp
      refine ⟨_, rfl, p, rfl, ⟨xs, .of hx⟩, fun L nL => lc_list (K := K) (a := p) (xs := xs) (fun i H' => Same H29 H' ∧ ∃ ys, H' L = some (.lst ys) ∧ ys.Nodup ∧ Paired (LRun H') ys (rs.take i)) ⟨same_upd nL, [], upd_same, List.nodup_nil, .nil⟩ (fun i H' _ p => .of (p.1 _ _ hx)) (fun i x H17 ex hP => ?_) (fun H17 hP => ?_)⟩
      · obtain ⟨sm, ys, hL, ndy, hy⟩ := hP
        obtain ⟨r, er, hr1⟩ := Paired.at hp ex
        obtain ⟨t, rfl, ht⟩ := RunV.same sm hr1
        have hi : i < xs.length := (List.getElem?_eq_some_iff.mp ex).1
        refine ⟨rfl, yesT ⟨_, rfl, t, _, rfl, .inr (.of ht), fun n nn => ⟨_, same_upd nn _ _ hL, ?_, same_grow nL (sm.trans (same_upd nn)), ys ++ [.ref n], upd_same, ?_, ?_⟩⟩⟩
        · have := Paired.len hy
          rw [List.length_take] at this
          exact small (by omega)
        · refine List.nodup_append.mpr ⟨ndy, List.nodup_cons.mpr ⟨by simp, List.nodup_nil⟩, fun b hb c hc => ?_⟩
          rw [List.mem_singleton.mp hc]
          intro z
          rw [z] at hb
          obtain ⟨j, hj, ej⟩ := List.mem_iff_getElem.mp hb
          obtain ⟨r', _, ⟨t', e', h'⟩⟩ := Paired.at hy (List.getElem?_eq_getElem hj)
          rw [ej] at e'
          cases e'
          rw [h'] at nn
          cases nn
        · rw [take_snoc er]
          have notr : ∀ r' : Run, ys ≠ [.str r'.1, .int r'.2] := fun r' z => by
            obtain ⟨_, _, ⟨_, e, _⟩⟩ := Paired.at (i := 0) (x := V.str r'.1) hy (by rw [z]; rfl)
            cases e
          refine Paired.app (Paired.imp (fun _ r' z => LRun.grow (same_upd nn _ _ hL) (notr r') (LRun.same (same_upd nn) z)) hy) (.cons (LRun.grow (same_upd nn _ _ hL) (notr r) ⟨n, rfl, upd_same⟩) .nil)
      · obtain ⟨s17, ys, hL, ndy, hy⟩ := hP
        rw [lx, List.take_length] at hy
        have z17 := z29.same s17
        clear z29 hx hp s17 nL lx
        -- the last of them
        refine ⟨_, rfl, 2, rfl, -2, rfl, L, ys, rfl, .of hL, fun c nc => ⟨c, rfl, ⟨_, .of upd_same⟩, for_list (K := K) (a := c) (xs := cutV ys (some (-2)) none) (fun j σ H' => ∃ hs y7 y10 y11, σ = [some (.ref a), some (.ref sp), some (.int (0 + i)), none, some (.ref p), some (.ref B), some (.ref S), y7, some (.ref L3), some (.ref L), y10, y11, none, none] ∧ Spr H' sp ∧ H' c = some (.lst (cutV ys (some (-2)) none)) ∧ H' L = some (.lst ys) ∧ Paired (LRun H') ys hs ∧ hs.map (·.1) = rs.map (·.1) ∧ ∀ r ∈ hs, 1 ≤ r.2 ∧ r.2 ≤ 1000000000000000000000000000000)
          ⟨rs, _, _, _, rfl, z17.same (same_upd nc), upd_same, same_upd nc _ _ hL, Paired.imp (fun _ _ z => LRun.same (same_upd nc) z) hy, rfl, fun r hr => (ok.2.1 r hr).2⟩ (fun j σ H' _ hP => ?_) (fun j x σ H18 ex hP => ?_) (fun σ H18 hP => ?_)⟩⟩
        · obtain ⟨_, _, _, _, _, _, hc, _⟩ := hP
          exact .of hc
        · obtain ⟨hs, y7, y10, y11, rfl, z18, hc, hL18, hys, em, bd⟩ := hP
          obtain ⟨k, ey, jl⟩ := cut_at ex
          obtain ⟨r, er, ⟨tr, rfl, ht⟩⟩ := Paired.at hys ey
          have bdr := bd r (List.mem_of_getElem? er)
          have kr : KindOk r.1 := kinds_of em (fun z hz => (kk z hz).1) r (List.mem_of_getElem? er)
          have nys : ∀ n : Int, ys ≠ [.str r.1, .int n] := fun n z => by
            rw [z] at hys
            cases hys with
            | cons h _ =>
              obtain ⟨_, e, _⟩ := h
              cases e
          have ncut : cutV ys (some (-2)) none ≠ [.str r.1, .int r.2] := fun z => by
            have h0 : (cutV ys (some (-2)) none)[0]? = some (.str r.1) := by rw [z]; rfl
            obtain ⟨k, h1, _⟩ := cut_at h0
            obtain ⟨_, _, ⟨_, e, _⟩⟩ := Paired.at hys h1
            cases e
          have hLt : L ≠ tr := fun z => by
            rw [z, ht] at hL18
            exact nys _ (HO.lst.inj (Option.some.inj hL18)).symm
          have hct : c ≠ tr := fun z => by
            rw [z, ht] at hc
            exact ncut (HO.lst.inj (Option.some.inj hc)).symm
          have hst : tr ≠ sp := fun z => by
            obtain ⟨_, _, _, h1, _⟩ := z18
            rw [← z, ht] at h1
            cases h1
          -- nothing
          have h0 := lrun_set (o := .lst [.str r.1, .int 0]) (r' := (r.1, 0)) ndy hys ey rfl
          have e0 := (map_set (c := 0) er).trans em
          have len0 : (hs.set k (r.1, 0)).length = rs.length := by
            have := congrArg List.length e0
            rw [List.length_map, List.length_map] at this
            exact this
          have k0 := kinds_of e0 (fun z hz => (kk z hz).1)
          have kl : k < hs.length := (List.getElem?_eq_some_iff.mp er).1
          have er0 : (hs.set k (r.1, 0))[k]? = some (r.1, 0) := by rw [List.getElem?_set_self kl]
          have zA := spr_upd (o := .lst [.str r.1, .int 0]) z18 hst
          have hLA : (upd H18 tr (.lst [.str r.1, .int 0])) L = some (.lst ys) := by rw [upd_ne hLt]; exact hL18
          have hcA : (upd H18 tr (.lst [.str r.1, .int 0])) c = some (.lst (cutV ys (some (-2)) none)) := by rw [upd_ne hct]; exact hc
          have htA : (upd H18 tr (.lst [.str r.1, .int 0])) tr = some (.lst [.str r.1, .int 0]) := upd_same
          refine ⟨_, rfl, tr, _, 1, 1, rfl, rfl, ht, rfl, ?_⟩
          show tSeq _ _ _ _ (upd H18 tr (.lst [.str r.1, .int 0]))
          generalize upd H18 tr (.lst [.str r.1, .int 0]) = HA at *
          have sq0 : (Dat.lst ((hs.set k (r.1, 0)).map dRL)).seq = false := rows_false (List.mem_of_getElem? er0) kr rfl
          have st0 : (dRL (r.1, 0)).state = false := by rw [row_state (r := (r.1, 0)) kr]; rfl
          refine ⟨_, rfl, .ref L, .lst ((hs.set k (r.1, 0)).map dRL), rfl, .lst hLA (rows_rp h0), rows_fits (by omega) k0, fun HB sB => ⟨_, rfl, .ref tr, dRL (r.1, 0), rfl, LRun.rp ⟨tr, rfl, sB _ _ htA⟩, row_fit kr, fun HC sC => ?_⟩⟩
          rw [sq0, st0]
          refine ⟨(by show 2 ≤ sizeLine; decide), fun Fo nF => ?_⟩
          have sD := (sB.trans sC).trans (same_upd (o := .lst [.bl false, .bl false]) nF)
          have zD := zA.same sD
          have hLD := sD _ _ hLA
          have hcD := sD _ _ hcA
          have htD := sD _ _ htA
          have hyD := Paired.imp (fun _ _ z => LRun.same sD z) h0
          have hFD : (upd HC Fo (.lst [.bl false, .bl false])) Fo = some (.lst [.bl false, .bl false]) := upd_same
          generalize upd HC Fo (.lst [.bl false, .bl false]) = HD at *
          have hFt : Fo ≠ tr := fun z => by
            rw [z, htD] at hFD
            cases hFD
          -- seven
          have h7 := lrun_set (o := .lst [.str r.1, .int 7]) (r' := (r.1, 7)) ndy hyD ey rfl
          have e7 := (map_set (c := 7) er0).trans e0
          have len7 : ((hs.set k (r.1, 0)).set k (r.1, 7)).length = rs.length := by rw [List.length_set]; exact len0
          have k7 := kinds_of e7 (fun z hz => (kk z hz).1)
          have bd7 : ∀ r' ∈ (hs.set k (r.1, 0)).set k (r.1, 7), 1 ≤ r'.2 ∧ r'.2 ≤ 1000000000000000000000000000000 := by
            intro r' hr'
            rw [List.set_set] at hr'
            rcases List.mem_or_eq_of_mem_set hr' with z | z
            · exact bd r' z
            · rw [z]
              exact ⟨by show (1 : Int) ≤ 7; decide, by show (7 : Int) ≤ _; decide⟩
          refine ⟨_, rfl, tr, _, 1, 1, rfl, rfl, htD, rfl, ?_⟩
          dsimp only [List.set]
          show tIfS _ _ _ _ _ (upd HD tr (.lst [.str r.1, .int 7]))
          have zE := spr_upd (o := .lst [.str r.1, .int 7]) zD hst
          have hLE : (upd HD tr (.lst [.str r.1, .int 7])) L = some (.lst ys) := by rw [upd_ne hLt]; exact hLD
          have hcE : (upd HD tr (.lst [.str r.1, .int 7])) c = some (.lst (cutV ys (some (-2)) none)) := by rw [upd_ne hct]; exact hcD
          have hFE : (upd HD tr (.lst [.str r.1, .int 7])) Fo = some (.lst [.bl false, .bl false]) := by rw [upd_ne hFt]; exact hFD
          have htE : (upd HD tr (.lst [.str r.1, .int 7])) tr = some (.lst [.str r.1, .int 7]) := upd_same
          generalize upd HD tr (.lst [.str r.1, .int 7]) = HE at *
          generalize (hs.set k (r.1, 0)).set k (r.1, 7) = h7s at *
          have sq7 : (Dat.lst (h7s.map dRL)).seq = true := rows_true (by omega) (fun r' hr' => ⟨k7 r' hr', bd7 r' hr'⟩) (alt_of e7 ok.2.2)
          have st7 : (dRL (r.1, 7)).state = true := by rw [row_state (r := (r.1, 7)) kr]; rfl
          refine ⟨_, rfl, _, rfl, .ref L, .lst (h7s.map dRL), rfl, .lst hLE (rows_rp h7), rows_fits (by omega) k7, fun HF sF => ⟨_, rfl, .ref tr, dRL (r.1, 7), rfl, LRun.rp ⟨tr, rfl, sF _ _ htE⟩, row_fit kr, fun HG sG => ?_⟩⟩
          rw [sq7, st7]
          refine ⟨(by show 2 ≤ sizeLine; decide), fun E nE => ⟨Fo, E, _, _, rfl, rfl, same_upd nE _ _ (sG _ _ (sF _ _ hFE)), upd_same, smallE (by show 2 + 2 ≤ 1000000; decide), fun C nC => ⟨(by show 4 ≤ sizeLine; decide), fun Z nZ => ⟨.ref C, .ref Z, .list ([false, false, true, true].map .bool), rfl, dt_bls (same_upd nZ _ _ upd_same) (by decide), dt_bls upd_same (by decide), fun HI sI => ⟨true, rfl, iteF ?_⟩⟩⟩⟩⟩
          have sJ := (sF.trans sG).trans (((same_upd (o := .lst [.bl true, .bl true]) nE).trans ((same_upd nC).trans (same_upd nZ))).trans sI)
          exact ⟨h7s, _, _, _, rfl, zE.same sJ, sJ _ _ hcE, sJ _ _ hLE, Paired.imp (fun _ _ z => LRun.same sJ z) h7, e7, bd7⟩
        · obtain ⟨hs, y7, y10, y11, rfl, z18, _⟩ := hP
          exact ⟨_, _, _, _, _, _, _, _, _, rfl, z18⟩
    · obtain ⟨y2, y4, y5, y6, y7, y8, y9, y10, y11, rfl, z2⟩ := hP
      clear z1 z2
      dsimp only [tSeq, tAsg, tLc, iList]
      refine lit_lst (ds := kindsD) (lits_cons lit_non (lits_cons lit_int (lits_cons (lit_lst (lits_cons lit_str lits_nil) (Nat.le_of_ble_eq_true rfl)) (lits_cons (lit_tup (lits_cons lit_str lits_nil) (Nat.le_of_ble_eq_true rfl)) (lits_cons lit_bl (lits_cons lit_str (lits_cons lit_str (lits_cons lit_str lits_nil)))))))) (Nat.le_of_ble_eq_true rfl) H2 _ (Same.refl _) (fun H3 v3 s3 r3 => ?_)
      cases r3 with
      | @lst M xs l e hpk =>
      refine ⟨M, rfl, ⟨_, .of e⟩, fun L nL => lc_bl (K := K) Dat.kind e hpk (by decide) nL (fun x => rfl) (fun x d H R hm sm hv k => ⟨_, rfl, x, d, rfl, hv, kindsD_fit d hm, k⟩) (fun H4 s4 h4 => ?_)⟩
      rw [kindsD_are] at h4
      refine ⟨_, rfl, (by show 8 ≤ sizeLine; decide), fun e ne => ?_⟩
      refine ⟨.list ([false, false, false, false, false, false, true, false].map .bool), .list ([false, false, false, false, false, false, true, false].map .bool), .lst (.of (same_upd ne _ _ h4)) (.cons (.bl _) (.cons (.bl _) (.cons (.bl _) (.cons (.bl _) (.cons (.bl _) (.cons (.bl _) (.cons (.bl _) (.cons (.bl _) .nil)))))))), .lst (.of upd_same) (.cons (.bl _) (.cons (.bl _) (.cons (.bl _) (.cons (.bl _) (.cons (.bl _) (.cons (.bl _) (.cons (.bl _) (.cons (.bl _) .nil)))))))), by decide, by decide, _, rfl, iteP (by decide) ⟨rfl, q⟩⟩
end
end UP

set_option Elab.async false
set_option linter.all false
set_option maxRecDepth 100000
set_option maxHeartbeats 4000000
namespace UP
open PySem PySem.Spec PyProof.Rows L2
section
variable {K : PySem.W.Frag} {h : Heap} {mg : Str → Option Value}
theorem df_mk {x : Str} {st : Stmt} {f : Addr} {od an : Option Addr} {sl : Array (Option Value)} {oc kV dc pm cd ct : Value} (X : K.In h) (G : h.Ns mainGlobals mg) (a : PySem.W.nsIn K mainGlobals x = some (some (.ref f)))
    (l : K.lookup f = some ⟨oc, od, .func (PySem.W.fnOf x x (defArgs st) (defBody st) (defScope st) .none kV dc pm an cd ct), sl⟩) (c : PySem.W.codeIn K cd x = true) (k : PySem.W.keepIn K (.ref f) = true) : Df K mg x st :=
  ⟨f, _, PySem.W.mg_of X G a, fun_mk l c k⟩
theorem dfd_mk {x : Str} {st : Stmt} {f T : Addr} {od an od2 : Option Addr} {sl sl2 : Array (Option Value)} {n2 : Nat} {oc kV dc pm cd ct oc2 : Value} (X : K.In h) (G : h.Ns mainGlobals mg) (a : PySem.W.nsIn K mainGlobals x = some (some (.ref f)))
    (l : K.lookup f = some ⟨oc, od, .func (PySem.W.fnOf x x (defArgs st) (defBody st) (defScope st) (.ref T) kV dc pm an cd ct), sl⟩) (t : K.lookup T = some ⟨oc2, od2, .seq #[.none] n2, sl2⟩) (c : PySem.W.codeIn K cd x = true) (k : PySem.W.keepIn K (.ref f) = true) : DfD K mg x st [.non] :=
  ⟨f, _, PySem.W.mg_of X G a, ⟨⟨oc, od, _, kV, dc, pm, an, cd, ct, sl, rfl, l, c, .inr ⟨(by intro z; cases z), T, _, [.none], n2, rfl, t, rfl, .cons rfl .nil⟩, .inl rfl⟩, k⟩⟩
theorem cst_mk {x : Str} {i : Int} {t : Tok} (X : K.In h) (G : h.Ns mainGlobals mg) (a : PySem.W.nsIn K mainGlobals x = some (some (.int i t))) : ∃ t, mg x = some (.int i t) := ⟨t, PySem.W.mg_of X G a⟩
end
/-- all that the top has written -/
structure Top (K : PySem.W.Frag) (mg : Str → Option Value) : Prop where
  T : Tx mg
  d_is_whole : Df K mg "is_whole" s_is_whole
  d_is_within : Df K mg "is_within" s_is_within
  d_is_listed : Df K mg "is_listed" s_is_listed
  d_is_couple : Df K mg "is_couple" s_is_couple
  d_is_kind : Df K mg "is_kind" s_is_kind
  d_is_run : Df K mg "is_run" s_is_run
  d_is_sequence : Df K mg "is_sequence" s_is_sequence
  d_is_state : Df K mg "is_state" s_is_state
  d_law_spring : Df K mg "_law_spring" s_law_spring
  d_law_draw : Df K mg "_law_draw" s_law_draw
  d_law_same : Df K mg "_law_same" s_law_same
  d_law_sequence : Df K mg "_law_sequence" s_law_sequence
  d_law_state : Df K mg "_law_state" s_law_state
  d_law_dressed : Df K mg "_law_dressed" s_law_dressed
  d_law_no_sequence : Df K mg "_law_no_sequence" s_law_no_sequence
  d_law_no_state : Df K mg "_law_no_state" s_law_no_state
  d_law_is_name : Df K mg "_law_is_name" s_law_is_name
  d_law_is_pair : Df K mg "_law_is_pair" s_law_is_pair
  d_law_due : Df K mg "_law_due" s_law_due
  d_law_changed : Df K mg "_law_changed" s_law_changed
  d_law_names_right : Df K mg "_law_names_right" s_law_names_right
theorem Top.law {P : Program} {w : World} {K : PySem.W.Frag} {mg : Str → Option Value} (Y : Top K mg) {f : Addr} {fd : FuncData} (F : Fun K "law" "law" s_law f fd) (base : Heap) : FnC P w K mg base f fd ["script"] (sp_law K) := by
  have T := Y.T
  have g_is_whole := ok_is_whole (P := P) (w := w) (base := base) Y.d_is_whole T
  have g_is_within := ok_is_within (P := P) (w := w) (base := base) Y.d_is_within g_is_whole
  have g_is_listed := ok_is_listed (P := P) (w := w) (base := base) Y.d_is_listed T
  have g_is_couple := ok_is_couple (P := P) (w := w) (base := base) Y.d_is_couple T
  have g_is_kind := ok_is_kind (P := P) (w := w) (base := base) Y.d_is_kind T
  have g_is_run := ok_is_run (P := P) (w := w) (base := base) Y.d_is_run T g_is_couple g_is_kind g_is_within
  have g_is_state := ok_is_state (P := P) (w := w) (base := base) Y.d_is_state T g_is_couple g_is_kind g_is_whole
  have g_is_sequence := ok_is_sequence (P := P) (w := w) (base := base) Y.d_is_sequence T g_is_listed g_is_run
  have g_law_draw := ok_law_draw (P := P) (w := w) (base := base) Y.d_law_draw T
  have g_law_spring := ok_law_spring (P := P) (w := w) (base := base) Y.d_law_spring T
  have g_law_state := ok_law_state (P := P) (w := w) (base := base) Y.d_law_state T g_law_draw
  have g_law_sequence := ok_law_sequence (P := P) (w := w) (base := base) Y.d_law_sequence T g_law_draw
  have g_law_same := ok_law_same (P := P) (w := w) (base := base) Y.d_law_same T 2
  have g_law_dressed := ok_law_dressed (P := P) (w := w) (base := base) Y.d_law_dressed T g_law_draw 2
  have gD_is_whole := okD_is_whole (P := P) (w := w) (base := base) Y.d_is_whole T
  have gD_is_listed := okD_is_listed (P := P) (w := w) (base := base) Y.d_is_listed T
  have gD_is_couple := okD_is_couple (P := P) (w := w) (base := base) Y.d_is_couple T
  have gD_is_within := okD_is_within (P := P) (w := w) (base := base) Y.d_is_within gD_is_whole
  have gD_is_kind := okD_is_kind (P := P) (w := w) (base := base) Y.d_is_kind T
  have gD_is_run := okD_is_run (P := P) (w := w) (base := base) Y.d_is_run T gD_is_couple gD_is_kind gD_is_within
  have gD_is_state := okD_is_state (P := P) (w := w) (base := base) Y.d_is_state T gD_is_couple gD_is_kind gD_is_whole
  have gD_is_sequence := okD_is_sequence (P := P) (w := w) (base := base) Y.d_is_sequence T gD_is_listed gD_is_run
  have g_law_no_state := ok_law_no_state (P := P) (w := w) (base := base) Y.d_law_no_state T g_law_draw
  have g_law_no_sequence := ok_law_no_sequence (P := P) (w := w) (base := base) Y.d_law_no_sequence T g_law_draw
  have g_law_is_name := ok_law_is_name (P := P) (w := w) (base := base) Y.d_law_is_name T
  have g_law_is_pair := ok_law_is_pair (P := P) (w := w) (base := base) Y.d_law_is_pair T g_law_is_name
  have g_law_due := ok_law_due (P := P) (w := w) (base := base) Y.d_law_due T g_law_is_pair
  have g_law_names_right := ok_law_names_right (P := P) (w := w) (base := base) Y.d_law_names_right T gD_is_kind gD_is_sequence gD_is_state
  have g_law_changed := ok_law_changed (P := P) (w := w) (base := base) Y.d_law_changed T g_law_draw
  exact fn_law F T g_law_spring g_law_draw g_law_sequence g_law_state g_law_dressed g_law_same g_law_no_sequence g_law_no_state g_law_is_pair g_law_due g_law_changed g_law_names_right gD_is_kind gD_is_sequence gD_is_state
theorem all_mk {P : Program} {w : World} {K : PySem.W.Frag} {h : Heap} {mg : Str → Option Value} {fa f : Addr} {od an : Option Addr} {sl : Array (Option Value)} {oc kV dc pm cd ct : Value} (X : K.In h) (G : h.Ns mainGlobals mg) (hfa : mg "law" = some (.ref fa)) (a : PySem.W.nsIn K mainGlobals "law" = some (some (.ref f)))
    (l : K.lookup f = some ⟨oc, od, .func (PySem.W.fnOf "law" "law" (defArgs s_law) (defBody s_law) (defScope s_law) .none kV dc pm an cd ct), sl⟩) (c : PySem.W.codeIn K cd "law" = true) (k : PySem.W.keepIn K (.ref f) = true) (Y : Top K mg) :
    ∃ fd : FuncData, (∀ (s : Shared) (v : Value), BindsTo s fd ⟨[v], []⟩ [("script", v)]) ∧ ∀ base : Heap, K.In base → base.Ns mainGlobals mg → FnC P w K mg base fa fd ["script"] (sp_law K) := by
  have e := hfa.symm.trans (PySem.W.mg_of X G a)
  cases e
  exact ⟨_, fun s v => .of_eq rfl, fun base _ _ => Y.law (fun_mk (st := s_law) l c k) base⟩
end UP
open PySem PySem.W PyProof.Rows
set_option maxHeartbeats 0 in
theorem PySem.Challenge.cw_unlikepairs_k01_kinds_sequences_states_holds : PySem.Challenge.rw_unlikepairs_k01_kinds_sequences_states.Holds := by
  w_on; o_law; k_head; (case hw => w_witness2)
  k_fill
  refine UP.walkC (l := PySem.Challenge.rw_unlikepairs_k01_kinds_sequences_states) (n := 63) (x := "script") (sp := fun w => UP.sp_law _) rfl (by decide) rfl (fun w h Y => PySem.W.kIn_of Y) ?F (fun _ _ a ns hl hS => ⟨a, ns, rfl, hS, hl, fun _ => rfl⟩)
  case F =>
    intro w mg fa h KX G hmg
    refine' UP.all_mk KX G hmg ?a ?l ?c ?k ?Y
    (case a => k_is); (case l => k_is); (case c => k_is); (case k => k_is)
    case Y =>
      constructor
      · constructor
        · refine' PySem.W.mg_none_of KX G ?z; (case z => k_is)
        · refine' PySem.W.mg_none_of KX G ?z; (case z => k_is)
        · refine' PySem.W.mg_none_of KX G ?z; (case z => k_is)
        · refine' PySem.W.mg_none_of KX G ?z; (case z => k_is)
        · refine' PySem.W.mg_none_of KX G ?z; (case z => k_is)
        · refine' PySem.W.mg_none_of KX G ?z; (case z => k_is)
        · refine' PySem.W.mg_none_of KX G ?z; (case z => k_is)
        · refine' PySem.W.mg_none_of KX G ?z; (case z => k_is)
        · refine' PySem.W.mg_none_of KX G ?z; (case z => k_is)
        · refine' PySem.W.mg_none_of KX G ?z; (case z => k_is)
        · refine' PySem.W.mg_none_of KX G ?z; (case z => k_is)
        · refine' PySem.W.mg_none_of KX G ?z; (case z => k_is)
        · refine' PySem.W.mg_none_of KX G ?z; (case z => k_is)
        · refine' PySem.W.mg_none_of KX G ?z; (case z => k_is)
        · refine' PySem.W.mg_none_of KX G ?z; (case z => k_is)
        · refine' PySem.W.mg_none_of KX G ?z; (case z => k_is)
        · refine' PySem.W.mg_none_of KX G ?z; (case z => k_is)
        · refine' PySem.W.mg_none_of KX G ?z; (case z => k_is)
        · refine' PySem.W.mg_none_of KX G ?z; (case z => k_is)
        · refine' PySem.W.mg_none_of KX G ?z; (case z => k_is)
        · refine' PySem.W.mg_none_of KX G ?z; (case z => k_is)
        · refine' UP.cst_mk KX G ?z; (case z => k_is)
        · refine' UP.cst_mk KX G ?z; (case z => k_is)
        · refine' UP.cst_mk KX G ?z; (case z => k_is)
      · refine' UP.df_mk KX G ?a ?l ?c ?k; (case a => k_is); (case l => k_is); (case c => k_is); (case k => k_is)
      · refine' UP.df_mk KX G ?a ?l ?c ?k; (case a => k_is); (case l => k_is); (case c => k_is); (case k => k_is)
      · refine' UP.df_mk KX G ?a ?l ?c ?k; (case a => k_is); (case l => k_is); (case c => k_is); (case k => k_is)
      · refine' UP.df_mk KX G ?a ?l ?c ?k; (case a => k_is); (case l => k_is); (case c => k_is); (case k => k_is)
      · refine' UP.df_mk KX G ?a ?l ?c ?k; (case a => k_is); (case l => k_is); (case c => k_is); (case k => k_is)
      · refine' UP.df_mk KX G ?a ?l ?c ?k; (case a => k_is); (case l => k_is); (case c => k_is); (case k => k_is)
      · refine' UP.df_mk KX G ?a ?l ?c ?k; (case a => k_is); (case l => k_is); (case c => k_is); (case k => k_is)
      · refine' UP.df_mk KX G ?a ?l ?c ?k; (case a => k_is); (case l => k_is); (case c => k_is); (case k => k_is)
      · refine' UP.df_mk KX G ?a ?l ?c ?k; (case a => k_is); (case l => k_is); (case c => k_is); (case k => k_is)
      · refine' UP.df_mk KX G ?a ?l ?c ?k; (case a => k_is); (case l => k_is); (case c => k_is); (case k => k_is)
      · refine' UP.df_mk KX G ?a ?l ?c ?k; (case a => k_is); (case l => k_is); (case c => k_is); (case k => k_is)
      · refine' UP.df_mk KX G ?a ?l ?c ?k; (case a => k_is); (case l => k_is); (case c => k_is); (case k => k_is)
      · refine' UP.df_mk KX G ?a ?l ?c ?k; (case a => k_is); (case l => k_is); (case c => k_is); (case k => k_is)
      · refine' UP.df_mk KX G ?a ?l ?c ?k; (case a => k_is); (case l => k_is); (case c => k_is); (case k => k_is)
      · refine' UP.df_mk KX G ?a ?l ?c ?k; (case a => k_is); (case l => k_is); (case c => k_is); (case k => k_is)
      · refine' UP.df_mk KX G ?a ?l ?c ?k; (case a => k_is); (case l => k_is); (case c => k_is); (case k => k_is)
      · refine' UP.df_mk KX G ?a ?l ?c ?k; (case a => k_is); (case l => k_is); (case c => k_is); (case k => k_is)
      · refine' UP.df_mk KX G ?a ?l ?c ?k; (case a => k_is); (case l => k_is); (case c => k_is); (case k => k_is)
      · refine' UP.df_mk KX G ?a ?l ?c ?k; (case a => k_is); (case l => k_is); (case c => k_is); (case k => k_is)
      · refine' UP.df_mk KX G ?a ?l ?c ?k; (case a => k_is); (case l => k_is); (case c => k_is); (case k => k_is)
      · refine' UP.df_mk KX G ?a ?l ?c ?k; (case a => k_is); (case l => k_is); (case c => k_is); (case k => k_is)
