import PyProof.Rows.All
import Wide.All
import OpenK.AllK
import Wide.FinOn
import HandS.ForMost
import HandS.Wide
import HandS.IsInst
import HandS.Defaults
import HandS.Codes
import HandS.Style
import PyProof.ReprRoads
import PyProof.ReprLen
import HandS.Zip
import HandS.NoneIn
import HandS.TupAny
import HandS.ForExc
import HandS.ExcIs
import HandS.ExcValue
import PySem.Challenge.RW_unlikepairs_k15_partner_errors
set_option Elab.async false
set_option linter.all false
set_option maxRecDepth 100000
set_option maxHeartbeats 4000000
namespace UP
open PySem PySem.Spec PyProof.Rows L2

/-! ### a def that keeps a promise, by its name -/
section
variable (P : Program) (w : World) (K : PySem.W.Frag) (mg : Str → Option Value) (base : Heap)
def Has (k : Nat) (x : Str) (ps : List Str) (sp : Sp) : Prop :=
  ∃ f fd, mg x = some (.ref f) ∧ PySem.W.keepIn K (.ref f) = true ∧ Binds K fd ps [] ∧ FnOk P w K mg base CX0 k f fd ps sp
def Df (x : Str) (st : Stmt) : Prop := ∃ f fd, mg x = some (.ref f) ∧ Fun K x x st f fd
end
theorem Df.of {K : PySem.W.Frag} {mg : Str → Option Value} {x : Str} {st : Stmt} {f : Addr} {fd : FuncData} (g : mg x = some (.ref f)) (F : Fun K x x st f fd) : Df K mg x st := ⟨f, fd, g, F⟩
section
variable {P : Program} {w : World} {K : PySem.W.Frag} {mg : Str → Option Value} {base : Heap}
theorem has_of {x : Str} {st : Stmt} {ps N : List Str} {k : Nat} {sp : Sp} (D : Df K mg x st) (S : FnScope N ps (defScope st))
    (hb : ∀ (kV doc pm : Value) (an : Option Addr) (cdv ct : Value) (us : List Value), us.length = ps.length → bindArgs (PySem.W.fnOf x x (defArgs st) (defBody st) (defScope st) .none kV doc pm an cdv ct) ⟨us, []⟩ = pure (ps.zip us))
    (len : ∀ vs H Q E, sp vs H Q E → vs.length = ps.length)
    (body : ∀ (f : Addr) (cdv : Value) (A : Around) (outer : List Env) (s : Shared) (H : Hp) (vs : List V) (Q : VK) (E : XK), Room k (A.deeper (envOfC x (defScope st) s.heap.objs.size f cdv)) → sp vs H Q E →
      ∃ t, PSs (cxOf CX0 P w K mg base N x (defScope st) f cdv A outer s H E).nox (defBody st) t ∧ t { nx := fun _ H' => Q .non H', rt := Q } (start N vs) H) :
    Has P w K mg base (k + 1) x ps sp := by
  obtain ⟨f, fd, g, F⟩ := D
  exact ⟨f, fd, g, F.kp, F.binds hb, F.ok S len fun cdv A outer s H vs Q E hr h => body f cdv A outer s H vs Q E hr h⟩
theorem Has.weak {x : Str} {ps : List Str} {k : Nat} {sp sp' : Sp} (h : Has P w K mg base k x ps sp) (e : sp = sp') : Has P w K mg base k x ps sp' := e ▸ h
end
section
variable {X : Cx}
theorem pe_callH {k : Nat} {x : Str} {ps : List Str} {sp : Sp} {p pos : Pos} {e : Expr} {es : List Expr} {t : TA} (G : Has X.prog X.w X.K X.mg X.base k x ps sp) (hr : Room k X.A) (hg : Gl X x) (ha : PA X (e :: es) t)
    (hdb : (x == ("__debug__" : Str)) = false := by decide) (he : starEach (e :: es) X.env = (false, eval e X.env) :: starEach es X.env := by rfl) (hpl : (backTo pos (starEach es X.env)).any (·.1) = false := by rfl) :
    PE X (.Call (.Name x p) (e :: es) [] pos) (tCall sp [] E0 t) := by
  obtain ⟨f, fd, g, kp, b, F⟩ := G
  exact pe_call F hr hg g kp b .nil pass0 ha hdb he hpl
theorem pe_glI {x : Str} {i : Int} {pos : Pos} (h : ∃ t, X.mg x = some (.int i t)) (hg : Gl X x) (hd : (x == ("__debug__" : Str)) = false := by decide) : PE X (.Name x pos) (tC (.int i)) := by
  obtain ⟨t, h⟩ := h
  exact pe_glob hg h ⟨t, rfl⟩ hd
end

/-! ### heaps -/
theorem same_upd {H : Hp} {p : Addr} {o : HO} (h : H p = none) : Same H (upd H p o) := fun b x e => by
  rw [upd_ne (ne_of_none e h)]
  exact e
/-- all but the object at sp is as it was -/
def But (sp : Addr) (H H' : Hp) : Prop := ∀ b o, b ≠ sp → H b = some o → H' b = some o
theorem Same.but {sp : Addr} {H H' : Hp} (h : Same H H') : But sp H H' := fun b o _ e => h b o e
theorem But.trans {sp : Addr} {H H1 H2 : Hp} (a : But sp H H1) (b : But sp H1 H2) : But sp H H2 := fun c o n e => b c o n (a c o n e)
theorem But.refl {sp : Addr} {H : Hp} : But sp H H := fun _ _ _ e => e
theorem but_upd {sp : Addr} {H : Hp} {o : HO} : But sp H (upd H sp o) := fun b x n e => by
  rw [upd_ne n]
  exact e
theorem small {n : Nat} (h : n ≤ 1000000) : n < sizeLine := Nat.lt_of_le_of_lt h (by decide)
theorem smallE {n : Nat} (h : n ≤ 1000000) : n ≤ sizeLine := Nat.le_of_lt (small h)

/-! ### runs and states -/
abbrev Run := Str × Int
def RunV (H : Hp) (v : V) (r : Run) : Prop := ∃ t, v = .ref t ∧ H t = some (.tup [.str r.1, .int r.2])
def Runs (H : Hp) (a : Addr) (rs : List Run) : Prop := ∃ xs, H a = some (.lst xs) ∧ Paired (RunV H) xs rs
def StV (H : Hp) (v : V) : Option Run → Prop
  | none => v = .non
  | some r => RunV H v r
theorem RunV.same {H H' : Hp} {v : V} {r : Run} (s : Same H H') (h : RunV H v r) : RunV H' v r := by
  obtain ⟨t, e, h⟩ := h
  exact ⟨t, e, s _ _ h⟩
theorem Paired.len {α β : Type} {F : α → β → Prop} : ∀ {l₁ : List α} {l₂ : List β}, Paired F l₁ l₂ → l₁.length = l₂.length
  | _, _, .nil => rfl
  | _, _, .cons _ t => congrArg Nat.succ (Paired.len t)
theorem Paired.at {α β : Type} {F : α → β → Prop} : ∀ {l₁ : List α} {l₂ : List β} {i : Nat} {x : α}, Paired F l₁ l₂ → l₁[i]? = some x → ∃ y, l₂[i]? = some y ∧ F x y
  | _, _, _, _, .nil, h => by simp at h
  | _, _, 0, _, .cons h _, e => by
    simp only [List.getElem?_cons_zero, Option.some.injEq] at e
    subst e
    exact ⟨_, by simp, h⟩
  | _, _, i + 1, _, .cons _ t, e => by
    simp only [List.getElem?_cons_succ] at e ⊢
    exact Paired.at t e
theorem Paired.at' {α β : Type} {F : α → β → Prop} : ∀ {l₁ : List α} {l₂ : List β} {i : Nat} {y : β}, Paired F l₁ l₂ → l₂[i]? = some y → ∃ x, l₁[i]? = some x ∧ F x y
  | _, _, _, _, .nil, h => by simp at h
  | _, _, 0, _, .cons h _, e => by
    simp only [List.getElem?_cons_zero, Option.some.injEq] at e
    subst e
    exact ⟨_, by simp, h⟩
  | _, _, i + 1, _, .cons _ t, e => by
    simp only [List.getElem?_cons_succ] at e ⊢
    exact Paired.at' t e
theorem Paired.imp {α β : Type} {F G : α → β → Prop} (f : ∀ a b, F a b → G a b) : ∀ {l₁ : List α} {l₂ : List β}, Paired F l₁ l₂ → Paired G l₁ l₂
  | _, _, .nil => .nil
  | _, _, .cons h t => .cons (f _ _ h) (Paired.imp f t)
theorem Paired.app {α β : Type} {F : α → β → Prop} : ∀ {l₁ m₁ : List α} {l₂ m₂ : List β}, Paired F l₁ l₂ → Paired F m₁ m₂ → Paired F (l₁ ++ m₁) (l₂ ++ m₂)
  | _, _, _, _, .nil, h => h
  | _, _, _, _, .cons h t, k => .cons h (Paired.app t k)
theorem Paired.dropp {α β : Type} {F : α → β → Prop} : ∀ {l₁ : List α} {l₂ : List β} (n : Nat), Paired F l₁ l₂ → Paired F (l₁.drop n) (l₂.drop n)
  | _, _, 0, h => h
  | _, _, n + 1, .nil => .nil
  | _, _, n + 1, .cons _ t => by
    simp only [List.drop_succ_cons]
    exact Paired.dropp n t
theorem Paired.takep {α β : Type} {F : α → β → Prop} : ∀ {l₁ : List α} {l₂ : List β} (n : Nat), Paired F l₁ l₂ → Paired F (l₁.take n) (l₂.take n)
  | _, _, 0, h => by simp only [List.take_zero]; exact .nil
  | _, _, n + 1, .nil => .nil
  | _, _, n + 1, .cons h t => by
    simp only [List.take_succ_cons]
    exact .cons h (Paired.takep n t)
theorem Runs.same {H H' : Hp} {a : Addr} {rs : List Run} (s : Same H H') (h : Runs H a rs) : Runs H' a rs := by
  obtain ⟨xs, e, p⟩ := h
  exact ⟨xs, s _ _ e, Paired.imp (fun _ _ => RunV.same s) p⟩
theorem StV.same {H H' : Hp} {v : V} {st : Option Run} (s : Same H H') (h : StV H v st) : StV H' v st := by
  cases st with
  | none => exact h
  | some r => exact RunV.same s h
/-- the spring: a list of three ints -/
def Spr (H : Hp) (sp : Addr) : Prop := ∃ d s c : Int, H sp = some (.lst [.int d, .int s, .int c]) ∧ 0 ≤ d ∧ d.natAbs < 2 ^ 20000 ∧ 0 ≤ s ∧ s < 2305843009213693951
theorem RunV.but {H H' : Hp} {sp : Addr} {v : V} {r : Run} (z : Spr H sp) (s : But sp H H') (h : RunV H v r) : RunV H' v r := by
  obtain ⟨t, e, h⟩ := h
  obtain ⟨_, _, _, hs, _⟩ := z
  exact ⟨t, e, s _ _ (ne_of h hs (by intro q; cases q)) h⟩
theorem Runs.ne {H : Hp} {sp a : Addr} {rs : List Run} (z : Spr H sp) (h : Runs H a rs) : a ≠ sp := by
  obtain ⟨xs, e, p⟩ := h
  obtain ⟨d, s, c, hs, _⟩ := z
  refine ne_of e hs fun q => ?_
  have q := HO.lst.inj q
  subst q
  cases p with
  | cons h _ =>
    obtain ⟨t, e, _⟩ := h
    cases e
theorem Runs.but {H H' : Hp} {sp a : Addr} {rs : List Run} (z : Spr H sp) (s : But sp H H') (h : Runs H a rs) : Runs H' a rs := by
  have n := Runs.ne z h
  obtain ⟨xs, e, p⟩ := h
  exact ⟨xs, s _ _ n e, Paired.imp (fun _ _ => RunV.but z s) p⟩
theorem StV.but {H H' : Hp} {sp : Addr} {v : V} {st : Option Run} (z : Spr H sp) (s : But sp H H') (h : StV H v st) : StV H' v st := by
  cases st with
  | none => exact h
  | some r => exact RunV.but z s h
theorem Spr.same {H H' : Hp} {sp : Addr} (z : Spr H sp) (s : Same H H') : Spr H' sp := by
  obtain ⟨d, e, c, hs, r⟩ := z
  exact ⟨d, e, c, s _ _ hs, r⟩
def KindOk (s : Str) : Prop := 1 ≤ s.length ∧ s.length ≤ 8 ∧ ∀ c ∈ s.cps.toList, 97 ≤ c ∧ c ≤ 122
def RunOk (r : Run) : Prop := KindOk r.1 ∧ 1 ≤ r.2 ∧ r.2 ≤ 1000000000000000000000000000000
def Alt (rs : List Run) : Prop := ∀ (i : Nat) (x y : Run), rs[i]? = some x → rs[i + 1]? = some y → x.1 ≠ y.1
def SeqOk (rs : List Run) : Prop := rs.length ≤ 400 ∧ (∀ r ∈ rs, RunOk r) ∧ Alt rs
end UP

set_option Elab.async false
set_option linter.all false
set_option maxRecDepth 100000
set_option maxHeartbeats 4000000
namespace UP
open PySem PySem.Spec PyProof.Rows L2
/-! ### repr of plain data, where no other repr is under way -/
def rRepr (K : PySem.W.Frag) : List V → Hp → VK → Prop := fun xs H Q => ∃ (a : Addr) (d : PyData), xs = [.ref a] ∧ Dp K H (.ref a) d ∧ d.showable = true ∧ SeqAt.shaped d = true ∧ d.shown.length ≤ sizeLine ∧ Q (.str d.shown) H
theorem call_reprD {X : Cx} (hg : X.A.guards = some []) (hu : X.A.units + 70 < cLine) : CallR X (.builtin "repr") (rRepr X.K) := by
  intro pins s σ H xs us Q I r h
  obtain ⟨a, d, rfl, dp, sh, sp, sz, q⟩ := h
  obtain ⟨u, rfl, ru⟩ := vals1 r
  cases (show u = Value.ref a from ru)
  obtain ⟨as, rd⟩ := Dp.reads I d (.ref a) (.ref a) dp rfl
  have dd := SeqAt.depth_of_shaped sp
  refine repr_of_reads' rd sh (PyData.noDict_hsm (PyData.hasDict_of_canLay d (SeqAt.canLay_of_shaped sp))) hg (by omega) (fun _ _ e => e) (fun h' u tk hk => ?_) sz
  exact ⟨.str d.shown, H, I.kept (t' := tk) hk, ⟨u, rfl⟩, q⟩
/-! ### the law's own call, around it nothing -/
structure FnC (P : Program) (w : World) (K : PySem.W.Frag) (mg : Str → Option Value) (base : Heap) (f : Addr) (fd : FuncData) (ps : List Str) (sp : Sp) : Prop where
  go : ∀ (out : List Env) (s : Shared) (H : Hp) (args : Args) (us : List Value) (vs : List V) (Q : VK) (E : XK), Env0 P w K mg base callerA out s H → BindsTo s fd args (ps.zip us) → Vals vs us → sp vs H Q E →
    codeAny (model P w) callerA (.call (.ref f) args) (CR CX0 out P w H s Q E) s
theorem callerA_room : Room 8 callerA := ⟨rfl, by decide, by decide⟩
section
variable {P : Program} {w : World} {K : PySem.W.Frag} {mg : Str → Option Value} {base : Heap}
theorem fnC_of {x : Str} {st : Stmt} {f : Addr} {fd : FuncData} {ps N : List Str} {sp : Sp} (F : Fun K x x st f fd) (S : FnScope N ps (defScope st)) (len : ∀ vs H Q E, sp vs H Q E → vs.length = ps.length)
    (body : ∀ (cdv : Value) (out : List Env) (s : Shared) (H : Hp) (vs : List V) (Q : VK) (E : XK), Room 7 (callerA.deeper (envOfC x (defScope st) s.heap.objs.size f cdv)) → sp vs H Q E →
      ∃ t, PSs (cxOf CX0 P w K mg base N x (defScope st) f cdv callerA out s H E).nox (defBody st) t ∧ t { nx := fun _ H' => Q .non H', rt := Q } (start N vs) H) : FnC P w K mg base f fd ps sp := by
  obtain ⟨oc, od, kV, doc, pm, an, cdv, ct, osl, rfl, lk, hcd⟩ := F.ex
  refine ⟨fun out s H args us vs Q E e0 hb rv hsp => ?_⟩
  have inS : K.In s.heap := e0.mod.kin.keeps fun b o z => (e0.bs b o z).1
  have noL : s.heap.NoLimit := e0.mod.nolimit.keeps fun b o z => (e0.bs b o z).1
  have kinds : ∀ y ∈ ps.zip us, (defScope st).names.lookup y.1 = some .local ∨ ((defScope st).names.lookup y.1 = some .cell ∧ ((cellsFrom (s.heap.objs.size + 1) (defScope st).names []).lookup y.1).isSome = true) := by
    intro y hy
    rcases S.par y.1 (List.of_mem_zip (a := y.1) (b := y.2) hy).1 with z | z
    · exact Or.inl z
    · exact Or.inr ⟨z, PySem.W.cellsFrom_some _ _ _ (Or.inl z)⟩
  refine codeAny_call_function callerA_room.depth (inS _ _ lk) rfl S.co S.gen rfl (PySem.W.codeRec_of inS hcd) (hb _ _ _ _ ?_)
  refine wpAny_newFunctionEnv_cells S.kind kinds fun env he s1 inC => ?_
  subst he
  refine ⟨noL.keeps inC.toInCall.keep, codeAny_func ?_⟩
  obtain ⟨t, ht0, hq⟩ := body cdv out s H vs Q E (callerA_room.deeper _) hsp
  have ht := PSs.nox ht0
  have I0 : Inv (cxOf CX0 P w K mg base N x (defScope st) f cdv callerA out s H E) [] (start N vs) H s1 := inv_start S rfl e0 (len _ _ _ _ hsp) rv inC
  refine wpAny_mono (ht.run [] s1 (start N vs) H _ I0 hq) (fun fl s2 h2 => ?_) fun _ _ z => z
  cases fl with
  | next =>
    obtain ⟨σ2, H2, J, q2⟩ := h2
    exact ⟨V.non, H2, J.os, J.bare, J.base, J.hok, rfl, q2⟩
  | ret u =>
    obtain ⟨v, σ2, H2, J, rv2, q2⟩ := h2
    exact ⟨v, H2, J.os, J.bare, J.base, J.hok, rv2, q2⟩
  | brk =>
    obtain ⟨_, _, _, z⟩ := h2
    exact z.elim
  | cont =>
    obtain ⟨_, _, _, z⟩ := h2
    exact z.elim
end
/-- the heap that holds the script alone, locked -/
def oneH (a : Addr) (o : Obj) (xs : List V) : Hp := fun b => if b = a then some (.frz o (.lst xs)) else none
theorem run_law {P : Program} {w : World} {K : PySem.W.Frag} {mg mb : Str → Option Value} {fa a : Addr} {fd : FuncData} {x : Str} {sp : Sp} {s : Shared} {vs : List Value} {ns : List Int}
    (kx : K.In s.heap) (gns : s.heap.Ns mainGlobals mg) (bns : s.heap.Ns builtinsNs mb) (bb : ∀ y : Str, y ≠ "__name__" → mb y = bootBuiltins y) (nl : s.heap.NoLimit) (gens : s.gens = #[])
    (ob : s.heap.get? a = some { cls := .type "list", data := .seq vs.toArray }) (hin : IntsAre vs ns) (len : ns.length ≤ sizeLine) (F : ∀ base : Heap, K.In base → base.Ns mainGlobals mg → FnC P w K mg base fa fd [x] sp)
    (bind : ∀ (s : Shared) (u : Value), BindsTo s fd ⟨[u], []⟩ [(x, u)]) (hsp : ∀ H : Hp, SqL K H a (ns.map V.int) → sp [.ref a] H (fun v _ => v = .bl true) fun _ _ _ => False) :
    codeAny (model P w) callerA (.call (.ref fa) ⟨[.ref a], []⟩) (fun r s' => r = .ok (.ret (.bool true)) ∧ OldK s.heap s'.heap ∧ s'.os = s.os ∧ AllBare s'.gens) s := by
  have rel := vals_ints hin
  have step : ∀ H : Hp, (H = (fun _ => none) ∨ (H = oneH a { cls := .type "list", data := .seq vs.toArray } (ns.map V.int) ∧ K.lookup a = none)) → SqL K H a (ns.map V.int) → HOk P w H s.heap →
      codeAny (model P w) callerA (.call (.ref fa) ⟨[.ref a], []⟩) (fun r s' => r = .ok (.ret (.bool true)) ∧ OldK s.heap s'.heap ∧ s'.os = s.os ∧ AllBare s'.gens) s := by
    intro H hH hS hok
    have only : ∀ b u, H b = some u → b = a ∧ u = .frz { cls := .type "list", data := .seq vs.toArray } (.lst (ns.map V.int)) ∧ K.lookup a = none := by
      intro b u e
      rcases hH with z | ⟨z, z2⟩
      · rw [z] at e
        cases e
      · rw [z] at e
        by_cases hb : b = a
        · have e := (if_pos hb).symm.trans e
          cases e
          exact ⟨hb, rfl, z2⟩
        · have e := (if_neg hb).symm.trans e
          cases e
    have free : ∀ {b : Addr} {o : Obj}, s.heap.get? b = some o → (b = a → False) → (hidT s.heap H).get? b = some o := by
      intro b o e n
      refine hidT_get e ?_
      cases q : H b with
      | none => rfl
      | some u => exact (n (only b u q).1).elim
    have nss : ∀ {b : Addr} {m : Str → Option Value}, s.heap.Ns b m → (hidT s.heap H).Ns b m := by
      intro b m ⟨o, es, ep, e, d, r⟩
      refine ⟨o, es, ep, free e fun z => ?_, d, r⟩
      subst z
      rw [ob] at e
      cases e
      cases d
    have kb : K.In (hidT s.heap H) := by
      intro b o e
      refine hidT_get (kx b o e) ?_
      cases q : H b with
      | none => rfl
      | some u =>
        obtain ⟨z1, _, z2⟩ := only b u q
        rw [z1, z2] at e
        cases e
    have md : Mod K mg (hidT s.heap H) := ⟨kb, nss gns, ⟨mb, nss bns, bb⟩, by obtain ⟨mc, h1, h2⟩ := nl; exact ⟨mc, nss h1, h2⟩⟩
    have env : Env0 P w K mg (hidT s.heap H) callerA [] s H := ⟨rfl, md, fun b o e => of_hidT e, Nat.le_of_eq (hidT_size _ _), trivial, (fun b hb => by cases hb), hok, .of_eq gens⟩
    refine codeAny_mono ((F _ kb (nss gns)).go [] s H ⟨[.ref a], []⟩ [.ref a] [.ref a] _ _ env (bind s (.ref a)) (.cons rfl .nil) (hsp H hS)) fun r s' h => ?_
    cases r with
    | error e => exact h.elim
    | ok fl =>
      cases fl with
      | next => exact h.elim
      | brk => exact h.elim
      | cont => exact h.elim
      | ret u =>
        obtain ⟨v, H', o1, o2, un, hok', rv, q⟩ := h
        have q : v = .bl true := q
        subst q
        cases (show u = Value.bool true from rv)
        refine ⟨rfl, OldK.of_keep fun b o e => ?_, o1, o2⟩
        cases q : H b with
        | none => exact un.keep b o e q (fun z => by cases z) (fun z => by cases z)
        | some u =>
          obtain ⟨_, z, _⟩ := only b u q
          subst z
          obtain ⟨e1, _⟩ := hok b _ q
          obtain ⟨e2, _⟩ := hok' b _ (un.frzs b _ _ q)
          rw [e] at e1
          cases e1
          exact e2
  cases hk : K.lookup a with
  | some o =>
    have e := kx a o hk
    rw [ob] at e
    cases e
    refine step (fun _ => none) (.inl rfl) (.inr ⟨_, vs.toArray, _, hk, rfl, rfl, rfl, ?_, by simpa using rel⟩) fun b u z => by cases z
    rw [List.size_toArray, hin.length]
    exact len
  | none =>
    have at_a : oneH a { cls := .type "list", data := .seq vs.toArray } (ns.map V.int) a = some (.frz { cls := .type "list", data := .seq vs.toArray } (.lst (ns.map V.int))) := if_pos rfl
    refine step _ (.inr ⟨rfl, hk⟩) (.inl (.inr ⟨_, at_a⟩)) fun b u z => ?_
    by_cases hb : b = a
    · subst hb
      rw [at_a] at z
      cases z
      exact ⟨ob, by rw [List.length_map]; exact len, vs, _, rel, ob⟩
    · have z := (if_neg hb).symm.trans z
      cases z
theorem walkC {l : PySem.W.OpenLaw} {n : Nat} {q : Program} {loose : List Str} {XP : (Str → Option Value) → Heap → Prop} {YP : World → Heap → Prop} {d : DefRec} {K : Params → PySem.W.Frag} {sp : World → Sp} {x : Str}
    (hn : l.most = some n) (n2 : n ≤ sizeLine) (df : d.params.defaults = []) (hY : ∀ (w : World) (h : Heap), YP w h → (K w.params).In h)
    (F : ∀ (w : World) (mg : Str → Option Value) (fa : Addr) (h : Heap), (K w.params).In h → h.Ns mainGlobals mg → mg d.name = some (.ref fa) →
      ∃ fd : FuncData, (∀ (s : Shared) (u : Value), BindsTo s fd ⟨[u], []⟩ [(x, u)]) ∧ ∀ base : Heap, (K w.params).In base → base.Ns mainGlobals mg → FnC l.prog w (K w.params) mg base fa fd [x] (sp w))
    (hsp : ∀ (w : World) (H : Hp) (a : Addr) (ns : List Int), ns.length ≤ n → SqL (K w.params) H a (ns.map V.int) → sp w [.ref a] H (fun v _ => v = .bl true) fun _ _ _ => False) :
    PySem.W.WalkO q loose XP YP l.row.toRowW d [] (fun f vs => PySem.call f vs) := by
  refine Att.attach_call hn df fun w s₀ s mg mb fa o pm cd doc a vs ns G Y ho hd hcd hmg hobj hints hlen hg => ?_
  have kx := hY w _ Y
  obtain ⟨fd, hb, hF⟩ := F w mg fa _ kx G.T.g hmg
  exact run_law kx G.T.g G.T.b G.T.builtins G.T.nolimit hg hobj hints (Nat.le_trans hlen n2) hF hb fun H hS => hsp w H a ns hlen hS
end UP

set_option Elab.async false
set_option linter.all false
set_option maxRecDepth 100000
set_option maxHeartbeats 4000000
namespace UP
open PySem PySem.Spec PyProof.Rows L2
/-! ### lists or tuples -/
def Sq2 (H : Hp) (a : Addr) (xs : List V) : Prop := H a = some (.lst xs) ∨ H a = some (.tup xs)
theorem Sq2.same {H H' : Hp} {a : Addr} {xs : List V} (s : Same H H') (h : Sq2 H a xs) : Sq2 H' a xs := h.elim (fun z => .inl (s _ _ z)) (fun z => .inr (s _ _ z))
/-- a walk over the items xs, from the heap H on -/
structure Wk (J : It) (H : Hp) (xs : List V) : Prop where
  go : ∀ i H', Same H H' → i < xs.length → J.go i H'
  stop : ∀ H', Same H H' → J.stop xs.length H'
  yld : ∀ i x H' H'', Same H H' → J.yld i H' x H'' → H'' = H' ∧ xs[i]? = some x
theorem wk_list {K : PySem.W.Frag} {H : Hp} {a : Addr} {xs : List V} (h : H a = some (.lst xs)) : Wk (Itl K a) H xs :=
  ⟨fun i H' s hi => ⟨xs, xs[i], .of (s _ _ h), List.getElem?_eq_getElem hi⟩, fun H' s => ⟨xs, .of (s _ _ h), Nat.le_refl _⟩, fun i x H' H'' s y => ⟨y.1, y.2 xs (.of (s _ _ h))⟩⟩
theorem wk_tup {K : PySem.W.Frag} {H : Hp} {a : Addr} {xs : List V} (h : H a = some (.tup xs)) : Wk (Itt K a) H xs :=
  ⟨fun i H' s hi => ⟨xs, xs[i], .of (s _ _ h), List.getElem?_eq_getElem hi⟩, fun H' s => ⟨xs, .of (s _ _ h), Nat.le_refl _⟩, fun i x H' H'' s y => ⟨y.1, y.2 xs (.of (s _ _ h))⟩⟩
def iSeqV (i : Nat) : TI := fun σ H R => ∃ a xs, σ[i]? = some (some (.ref a)) ∧ Sq2 H a xs ∧ ∀ J, Wk J H xs → R J H
section
variable {X : Cx}
theorem pi_seqV (i : Nat) {x : Str} {pos : Pos} {tg : Expr} (hN : X.N[i]? = some x := by rfl) (hv : Vis X.env.scope x := by first | exact Or.inl rfl | exact Or.inr (Or.inl rfl) | exact Or.inr (Or.inr rfl)) (hd : (x == ("__debug__" : Str)) = false := by decide)
    (hc : (x == ("__classdict__" : Str)) = false := by decide) : PI X tg (.Name x pos) (iSeqV i) := by
  refine ⟨fun pins s σ H R I hw => ?_⟩
  obtain ⟨a, xs, e, h, k⟩ := hw
  rcases h with h | h
  · exact (pi_list (pe_var hN hv hd hc)).run pins s σ H R I ⟨_, e, a, rfl, ⟨xs, .of h⟩, k _ (wk_list h)⟩
  · exact (pi_tup (pe_var hN hv hd hc)).run pins s σ H R I ⟨_, e, a, rfl, ⟨xs, .of h⟩, k _ (wk_tup h)⟩
def gAny (n : Nat) (t : TGs) : TG := fun v σ H Q => ∃ a xs, v = .ref a ∧ Sq2 H a xs ∧ xs.length = n ∧ t xs σ H Q
theorem pg_any {es : List Expr} {k n : Nat} {t : TGs} {pos : Pos} (hc : X.calm = true) (h : PGs X es t) (hn : (assignEach es X.env).length = n := by rfl) (hst : (assignEach es X.env).findIdx? (fun z => z.1) = none := by rfl) : PG X (.Tuple es k pos) (gAny n t) := by
  refine ⟨fun pins s σ H v u Q I r hw => ?_⟩
  obtain ⟨a, xs, e, hx, hl, hw⟩ := hw
  rcases hx with z | z
  · exact (pg_unl hc h hn hst).run pins s σ H v u Q I r ⟨a, xs, e, .of z, hl, hw⟩
  · exact (pg_tup hc h hn hst).run pins s σ H v u Q I r ⟨a, xs, e, .of z, hl, hw⟩
/-- zip(x, x[1:]) -/
structure WkZ (J : It) (H : Hp) (xs : List V) : Prop where
  go : ∀ i H', Same H H' → i + 1 < xs.length → J.go i H'
  stop : ∀ H', Same H H' → J.stop (xs.length - 1) H'
  yld : ∀ i x H' H'', Same H H' → J.yld i H' x H'' → ∃ T x1 x2, x = .ref T ∧ H' T = none ∧ H'' = upd H' T (.tup [x1, x2]) ∧ xs[i]? = some x1 ∧ (i + 1 < xs.length → xs[i + 1]? = some x2)
def iZip1 (i : Nat) : TI := fun σ H R => ∃ a xs, σ[i]? = some (some (.ref a)) ∧ Sq2 H a xs ∧ ∀ J H', Same H H' → WkZ J H' xs → R J H'
theorem cutt_one (xs : List V) : cutV xs (some 1) none = xs.drop 1 := by
  have e : HT.sIx xs.length 0 (some 1) = min 1 xs.length := HT.sIx_nat xs.length 0 1
  unfold cutV
  rw [e, HT.sIx_none]
  cases xs with
  | nil => rfl
  | cons x r =>
    have e1 : min 1 (x :: r).length = 1 := by simp only [List.length_cons]; omega
    rw [e1]
    simp
theorem pi_zip1 {i : Nat} {tg it : Expr} {tl th : TO} (h : PI X tg it (RZ.iZipA X.K (tCons (tVar i) (tCons (tSl (fun x lo hi H Q => rSlL X.K x lo hi H Q ∨ rSlA X.K x lo hi H Q) (tVar i) tl th) tNil))))
    (h1 : ∀ (σ : L2.St) (H : Hp) (Q : Option Int → Hp → Prop), Q (some 1) H → tl σ H Q) (h2 : ∀ (σ : L2.St) (H : Hp) (Q : Option Int → Hp → Prop), Q none H → th σ H Q) : PI X tg it (iZip1 i) := by
  refine ⟨fun pins s σ H R I hw => h.run pins s σ H R I ?_⟩
  obtain ⟨a, xs, e, hx, k⟩ := hw
  refine ⟨_, e, _, e, h1 σ H _ (h2 σ H _ ?_)⟩
  have gn : ∀ j : Nat, (xs.drop 1)[j]? = xs[j + 1]? := fun j => by rw [List.getElem?_drop, Nat.add_comm 1 j]
  rcases hx with hx | hx
  · refine .inl ⟨a, xs, rfl, .of hx, fun c nc => ?_⟩
    have sc : Same H (upd H c (.lst (cutV xs (some 1) none))) := fun b o z => by rw [upd_ne (ne_of_none z nc)]; exact z
    have hc : (upd H c (.lst (cutV xs (some 1) none))) c = some (.lst (xs.drop 1)) := by rw [upd_same, cutt_one]
    refine ⟨a, c, xs, xs.drop 1, rfl, .inl ⟨.of (sc _ _ hx), .of hc, k _ _ sc ⟨fun j H' sj hj => ?_, fun H' sj => ?_, fun j x H' H'' sj y => ?_⟩⟩⟩
    · exact ⟨xs, xs.drop 1, xs[j], xs[j + 1], .of (sj _ _ (sc _ _ hx)), .of (sj _ _ hc), List.getElem?_eq_getElem (by omega), by rw [gn]; exact List.getElem?_eq_getElem hj⟩
    · exact ⟨xs, xs.drop 1, .of (sj _ _ (sc _ _ hx)), .of (sj _ _ hc), .inr (by rw [List.length_drop]; exact Nat.le_refl _)⟩
    · obtain ⟨T, x1, x2, e1, e2, e3, f1, f2⟩ := y
      exact ⟨T, x1, x2, e1, e2, e3, f1 xs (.of (sj _ _ (sc _ _ hx))), fun _ => by rw [← gn]; exact f2 _ (.of (sj _ _ hc))⟩
  · refine .inr ⟨a, xs, rfl, .of hx, fun z => ?_, fun z c nc => ?_⟩
    · have lz : xs.length = 0 := by
        have z1 := z.1
        rw [show HT.sIx xs.length 0 (some 1) = min 1 xs.length from HT.sIx_nat xs.length 0 1] at z1
        omega
      refine ⟨a, a, xs, xs, rfl, .inr ⟨.of hx, .of hx, k _ _ (Same.refl _) ⟨fun j H' sj hj => by omega, fun H' sj => ⟨xs, xs, .of (sj _ _ hx), .of (sj _ _ hx), .inl (by omega)⟩, fun j x H' H'' sj y => ?_⟩⟩⟩
      obtain ⟨T, x1, x2, e1, e2, e3, f1, f2⟩ := y
      exact ⟨T, x1, x2, e1, e2, e3, f1 xs (.of (sj _ _ hx)), fun hj => by omega⟩
    · have sc : Same H (upd H c (.tup (cutV xs (some 1) none))) := fun b o z => by rw [upd_ne (ne_of_none z nc)]; exact z
      have hc : (upd H c (.tup (cutV xs (some 1) none))) c = some (.tup (xs.drop 1)) := by rw [upd_same, cutt_one]
      refine ⟨a, c, xs, xs.drop 1, rfl, .inr ⟨.of (sc _ _ hx), .of hc, k _ _ sc ⟨fun j H' sj hj => ?_, fun H' sj => ?_, fun j x H' H'' sj y => ?_⟩⟩⟩
      · exact ⟨xs, xs.drop 1, xs[j], xs[j + 1], .of (sj _ _ (sc _ _ hx)), .of (sj _ _ hc), List.getElem?_eq_getElem (by omega), by rw [gn]; exact List.getElem?_eq_getElem hj⟩
      · exact ⟨xs, xs.drop 1, .of (sj _ _ (sc _ _ hx)), .of (sj _ _ hc), .inr (by rw [List.length_drop]; exact Nat.le_refl _)⟩
      · obtain ⟨T, x1, x2, e1, e2, e3, f1, f2⟩ := y
        exact ⟨T, x1, x2, e1, e2, e3, f1 xs (.of (sj _ _ (sc _ _ hx))), fun _ => by rw [← gn]; exact f2 _ (.of (sj _ _ hc))⟩
end
/-! ### runs and states, dressed -/
def RunG (H : Hp) (v : V) (r : Run) : Prop := ∃ t, v = .ref t ∧ Sq2 H t [.str r.1, .int r.2]
def RunsG (H : Hp) (v : V) (rs : List Run) : Prop := ∃ a xs, v = .ref a ∧ Sq2 H a xs ∧ Paired (RunG H) xs rs
def StG (H : Hp) (v : V) : Option Run → Prop
  | none => v = .non
  | some r => RunG H v r
theorem RunG.same {H H' : Hp} {v : V} {r : Run} (s : Same H H') (h : RunG H v r) : RunG H' v r := by
  obtain ⟨t, e, h⟩ := h
  exact ⟨t, e, h.same s⟩
theorem RunsG.same {H H' : Hp} {v : V} {rs : List Run} (s : Same H H') (h : RunsG H v rs) : RunsG H' v rs := by
  obtain ⟨a, xs, e, hx, p⟩ := h
  exact ⟨a, xs, e, hx.same s, Paired.imp (fun _ _ => RunG.same s) p⟩
theorem StG.same {H H' : Hp} {v : V} {st : Option Run} (s : Same H H') (h : StG H v st) : StG H' v st := by
  cases st with
  | none => exact h
  | some r => exact RunG.same s h
theorem RunV.dress {H : Hp} {v : V} {r : Run} (h : RunV H v r) : RunG H v r := by
  obtain ⟨t, e, h⟩ := h
  exact ⟨t, e, .inr h⟩
theorem Runs.dress {H : Hp} {a : Addr} {rs : List Run} (h : Runs H a rs) : RunsG H (.ref a) rs := by
  obtain ⟨xs, hx, p⟩ := h
  exact ⟨a, xs, rfl, .inl hx, Paired.imp (fun _ _ => RunV.dress) p⟩
theorem StV.dress {H : Hp} {v : V} {st : Option Run} (h : StV H v st) : StG H v st := by
  cases st with
  | none => exact h
  | some r => exact RunV.dress h
theorem Sq2.but {H H' : Hp} {sp a : Addr} {xs : List V} (z : Spr H sp) (s : But sp H H') (h : Sq2 H a xs) (n : ∀ d e f, xs ≠ [.int d, .int e, .int f]) : Sq2 H' a xs := by
  obtain ⟨d, e, f, hs, _⟩ := z
  rcases h with h | h
  · exact .inl (s _ _ (ne_of h hs fun q => n d e f (HO.lst.inj q)) h)
  · exact .inr (s _ _ (ne_of h hs fun q => by cases q) h)
theorem RunG.but {H H' : Hp} {sp : Addr} {v : V} {r : Run} (z : Spr H sp) (s : But sp H H') (h : RunG H v r) : RunG H' v r := by
  obtain ⟨t, e, h⟩ := h
  exact ⟨t, e, h.but z s fun _ _ _ q => by cases q⟩
theorem RunsG.but {H H' : Hp} {sp : Addr} {v : V} {rs : List Run} (z : Spr H sp) (s : But sp H H') (h : RunsG H v rs) : RunsG H' v rs := by
  obtain ⟨a, xs, e, hx, p⟩ := h
  refine ⟨a, xs, e, hx.but z s fun d _ _ q => ?_, Paired.imp (fun _ _ => RunG.but z s) p⟩
  subst q
  cases p with
  | cons h _ =>
    obtain ⟨_, e, _⟩ := h
    cases e
theorem StG.but {H H' : Hp} {sp : Addr} {v : V} {st : Option Run} (z : Spr H sp) (s : But sp H H') (h : StG H v st) : StG H' v st := by
  cases st with
  | none => exact h
  | some r => exact RunG.but z s h
end UP

set_option Elab.async false
set_option linter.all false
set_option maxRecDepth 100000
set_option maxHeartbeats 4000000
namespace UP
open PySem PySem.Spec PyProof.Rows L2
def topS (i : Nat) : Stmt := PySem.Challenge.pw_unlikepairs_k15_partner_errors.main.body.getD i (.Pass ⟨0, 0, 0, 0⟩)
structure Tx (mg : Str → Option Value) : Prop where
  n_isinstance : mg "isinstance" = none
  n_int : mg "int" = none
  n_bool : mg "bool" = none
  n_str : mg "str" = none
  n_list : mg "list" = none
  n_tuple : mg "tuple" = none
  n_len : mg "len" = none
  n_all : mg "all" = none
  n_zip : mg "zip" = none
  n_sum : mg "sum" = none
  n_min : mg "min" = none
  n_max : mg "max" = none
  n_abs : mg "abs" = none
  n_range : mg "range" = none
  n_repr : mg "repr" = none
  n_enumerate : mg "enumerate" = none
  n_any : mg "any" = none
  n_dict : mg "dict" = none
  n_sorted : mg "sorted" = none
  n_set : mg "set" = none
  n_reversed : mg "reversed" = none
  n_ValueError : mg "ValueError" = none
  c_MAX_LETTERS : ∃ t, mg "MAX_LETTERS" = some (.int 8 t)
  c_MAX_RUNS : ∃ t, mg "MAX_RUNS" = some (.int 400 t)
  c_MAX_COUNT : ∃ t, mg "MAX_COUNT" = some (.int 1000000000000000000000000000000 t)
  c_MAX_PAIRS : ∃ t, mg "MAX_PAIRS" = some (.int 400 t)
/-! ### values of any form that a menu holds -/
inductive Dat where
  | non
  | bl (b : Bool)
  | int (n : Int)
  | str (z : Str)
  | dic
  | lst (l : List Dat)
  | tup (l : List Dat)
inductive Rp (H : Hp) : V → Dat → Prop where
  | non : Rp H .non .non
  | bl (b : Bool) : Rp H (.bl b) (.bl b)
  | int (n : Int) : Rp H (.int n) (.int n)
  | str (z : Str) : Rp H (.str z) (.str z)
  | dic {a : Addr} (e : H a = some (.dK [])) : Rp H (.ref a) .dic
  | lst {a : Addr} {xs : List V} {l : List Dat} (e : H a = some (.lst xs)) (h : Paired (Rp H) xs l) : Rp H (.ref a) (.lst l)
  | tup {a : Addr} {xs : List V} {l : List Dat} (e : H a = some (.tup xs)) (h : Paired (Rp H) xs l) : Rp H (.ref a) (.tup l)
theorem Rp.same {H H' : Hp} (s : Same H H') {v : V} {d : Dat} (h : Rp H v d) : Rp H' v d := by
  refine Rp.rec (motive_1 := fun v d _ => Rp H' v d) (motive_2 := fun xs l _ => Paired (Rp H') xs l) .non .bl .int .str ?_ ?_ ?_ .nil ?_ h
  · intro a e
    exact .dic (s _ _ e)
  · intro a xs l e _ ih
    exact .lst (s _ _ e) ih
  · intro a xs l e _ ih
    exact .tup (s _ _ e) ih
  · intro x y xs ys _ _ h1 h2
    exact .cons h1 h2
def Dat.isI : Dat → Bool
  | .int _ => true
  | _ => false
def Dat.inI (lo hi : Int) : Dat → Bool
  | .int n => decide (lo ≤ n ∧ n ≤ hi)
  | _ => false
/-- its parts, if it is a list or a tuple -/
def Dat.parts : Dat → Option (List Dat)
  | .lst l => some l
  | .tup l => some l
  | _ => none
def Dat.listed (d : Dat) (m : Int) : Bool := match d.parts with
  | some l => decide ((l.length : Int) ≤ m)
  | none => false
def Dat.couple (d : Dat) : Bool := match d.parts with
  | some l => decide (l.length = 2)
  | none => false
/-- the name of its type -/
def Dat.ty : Dat → String
  | .non => "NoneType"
  | .bl _ => "bool"
  | .int _ => "int"
  | .str _ => "str"
  | .dic => "dict"
  | .lst _ => "list"
  | .tup _ => "tuple"
theorem Rp.tyx {K : PySem.W.Frag} {H : Hp} {v : V} {d : Dat} (h : Rp H v d) : TyX K H v (.type d.ty) := by
  cases h with
  | non => exact .base .non
  | bl b => exact .base (.bl b)
  | int n => exact .base (.int n)
  | str z => exact .base (.str z)
  | dic e => exact .base (.dK e)
  | lst e _ => exact .base (.lst e)
  | tup e _ => exact .base (.tup e)
theorem kit_lst {K : PySem.W.Frag} : PySem.W.kitAny K (.type "list") [.type "list", .type "tuple"] = some true := kitAny_cons (b := true) (kit_ty (by decide +kernel)) (fun z => nomatch z) (fun _ => rfl)
theorem kit_tup {K : PySem.W.Frag} : PySem.W.kitAny K (.type "tuple") [.type "list", .type "tuple"] = some true := kitAny_cons (b := false) (kit_ty (by decide +kernel)) (fun _ => kitAny_cons (b := true) (kit_ty (by decide +kernel)) (fun z => nomatch z) (fun _ => rfl)) (fun z => nomatch z)
theorem kit_no {K : PySem.W.Frag} {n : String} (h1 : kitB n "list" = some false) (h2 : kitB n "tuple" = some false) : PySem.W.kitAny K (.type n) [.type "list", .type "tuple"] = some false := kitAny_cons (b := false) (kit_ty h1) (fun _ => kitAny_cons (b := false) (kit_ty h2) (fun _ => rfl) (fun z => nomatch z)) (fun z => nomatch z)
theorem Rp.noSeq {K : PySem.W.Frag} {H : Hp} {v : V} {d : Dat} (h : Rp H v d) (hd : d.parts = none) : ∃ t, TyX K H v t ∧ PySem.W.kitAny K t [.type "list", .type "tuple"] = some false := by
  cases h with
  | non => exact ⟨_, .base .non, kit_no (by decide +kernel) (by decide +kernel)⟩
  | bl b => exact ⟨_, .base (.bl b), kit_no (by decide +kernel) (by decide +kernel)⟩
  | int n => exact ⟨_, .base (.int n), kit_no (by decide +kernel) (by decide +kernel)⟩
  | str z => exact ⟨_, .base (.str z), kit_no (by decide +kernel) (by decide +kernel)⟩
  | dic e => exact ⟨_, .base (.dK e), kit_no (by decide +kernel) (by decide +kernel)⟩
  | lst e _ => cases hd
  | tup e _ => cases hd
theorem Rp.seq {H : Hp} {v : V} {d : Dat} (h : Rp H v d) {l : List Dat} (hd : d.parts = some l) : ∃ a xs, v = .ref a ∧ Sq2 H a xs ∧ Paired (Rp H) xs l := by
  cases h with
  | non => cases hd
  | bl b => cases hd
  | int n => cases hd
  | str z => cases hd
  | dic e => cases hd
  | lst e h => cases hd; exact ⟨_, _, rfl, .inl e, h⟩
  | tup e h => cases hd; exact ⟨_, _, rfl, .inr e, h⟩
theorem giP {b : Bool} {A B : Prop} (h : b = true) (x : A) : if b = true then A else B := by
  rw [if_pos h]
  exact x
theorem giN {b : Bool} {A B : Prop} (h : b = false) (x : B) : if b = true then A else B := by
  rw [if_neg (by rw [h]; decide)]
  exact x
section
variable {P : Program} {w : World} {K : PySem.W.Frag} {mg : Str → Option Value} {base : Heap}
/-! is_whole: slots 0:value -/
abbrev s_is_whole : Stmt := topS 25
theorem sc_is_whole : FnScope ["value"] ["value"] (defScope s_is_whole) := ⟨rfl, rfl, rfl, by decide +kernel, rfl, by decide +kernel, by decide +kernel⟩
def sp_is_whole : Sp := fun vs H Q _ => ∃ (v : V) (d : Dat), vs = [v] ∧ Rp H v d ∧ Q (.bl d.isI) H
theorem ok_is_whole (D : Df K mg "is_whole" s_is_whole) (T : Tx mg) : Has P w K mg base 1 "is_whole" ["value"] sp_is_whole := by
  refine has_of D sc_is_whole (fun _ _ _ _ _ _ us hl => match us, hl with | [_], _ => rfl) (fun vs H Q E h => ?_) (fun f cdv A outer s H vs Q E hr h => ?_)
  · obtain ⟨v, d, rfl, _⟩ := h
    rfl
  · obtain ⟨v, d, rfl, hv, q⟩ := h
    refine ⟨_, (pss_one (ps_ret (pe_and (pe_callB call_isi (by rfl) T.n_isinstance (by decide +kernel) (pa_cons (pv 0) (pa_cons (pe_bltn (v := .ty "int") (by rfl) T.n_int (by decide +kernel) rfl) pa_nil))) (pe_one (pe_not (pe_callB call_isi (by rfl) T.n_isinstance (by decide +kernel) (pa_cons (pv 0) (pa_cons (pe_bltn (v := .ty "bool") (by rfl) T.n_bool (by decide +kernel) rfl) pa_nil)))))))), ?_⟩
    cases hv with
    | int n => exact ⟨_, rfl, _, _, _, _, true, rfl, .ty "int", .base (.int n), kit_ty (by decide +kernel), true, rfl, iteT ⟨_, rfl, _, _, _, _, false, rfl, .ty "bool", .base (.int n), kit_ty (by decide +kernel), false, rfl, q⟩⟩
    | bl b => exact ⟨_, rfl, _, _, _, _, true, rfl, .ty "int", .base (.bl b), kit_ty (by decide +kernel), true, rfl, iteT ⟨_, rfl, _, _, _, _, true, rfl, .ty "bool", .base (.bl b), kit_ty (by decide +kernel), true, rfl, q⟩⟩
    | non => exact ⟨_, rfl, _, _, _, _, false, rfl, .ty "int", .base .non, kit_ty (by decide +kernel), false, rfl, iteF q⟩
    | str z => exact ⟨_, rfl, _, _, _, _, false, rfl, .ty "int", .base (.str z), kit_ty (by decide +kernel), false, rfl, iteF q⟩
    | dic e => exact ⟨_, rfl, _, _, _, _, false, rfl, .ty "int", .base (.dK e), kit_ty (by decide +kernel), false, rfl, iteF q⟩
    | lst e h => exact ⟨_, rfl, _, _, _, _, false, rfl, .ty "int", .base (.lst e), kit_ty (by decide +kernel), false, rfl, iteF q⟩
    | tup e h => exact ⟨_, rfl, _, _, _, _, false, rfl, .ty "int", .base (.tup e), kit_ty (by decide +kernel), false, rfl, iteF q⟩
/-! is_within: slots 0:value 1:low 2:high -/
abbrev s_is_within : Stmt := topS 26
theorem sc_is_within : FnScope ["value", "low", "high"] ["value", "low", "high"] (defScope s_is_within) := ⟨rfl, rfl, rfl, by decide +kernel, rfl, by decide +kernel, by decide +kernel⟩
def sp_is_within : Sp := fun vs H Q _ => ∃ (v : V) (d : Dat) (lo hi : Int), vs = [v, .int lo, .int hi] ∧ Rp H v d ∧ Q (.bl (d.inI lo hi)) H
theorem ok_is_within (D : Df K mg "is_within" s_is_within) (G_is_whole : Has P w K mg base 1 "is_whole" ["value"] sp_is_whole) : Has P w K mg base 2 "is_within" ["value", "low", "high"] sp_is_within := by
  refine has_of D sc_is_within (fun _ _ _ _ _ _ us hl => match us, hl with | [_, _, _], _ => rfl) (fun vs H Q E h => ?_) (fun f cdv A outer s H vs Q E hr h => ?_)
  · obtain ⟨v, d, lo, hi, rfl, _⟩ := h
    rfl
  · obtain ⟨v, d, lo, hi, rfl, hv, q⟩ := h
    refine ⟨_, (pss_one (ps_ret (pe_and (pe_callH G_is_whole (hr.mono (by omega)) (by rfl) (pa_cons (pv 0) pa_nil)) (pe_one (pe_chain op_le op_le (pv 1) (pv 0) (pv 2)))))), ?_⟩
    refine ⟨_, rfl, v, d, rfl, hv, d.isI, rfl, ?_⟩
    by_cases ci : d.isI = true
    · refine giP ci ?_
      cases hv with
      | int n =>
        refine ⟨_, rfl, _, rfl, _, _, rfl, rfl, _, rfl, ite2 (fun e => ?_) (fun e => ?_)⟩
        · have e := of_decide_eq_true e
          refine ⟨_, rfl, _, _, rfl, rfl, ?_⟩
          show Q (.bl (decide (n ≤ hi))) H
          rw [show decide (n ≤ hi) = (Dat.int n).inI lo hi by show _ = decide (lo ≤ n ∧ n ≤ hi); simp [e]]
          exact q
        · have e : ¬ lo ≤ n := fun z => e (decide_eq_true z)
          show Q (.bl false) H
          rw [show false = (Dat.int n).inI lo hi by show _ = decide (lo ≤ n ∧ n ≤ hi); simp [e]]
          exact q
      | _ => cases ci
    · refine giN (by simpa using ci) ?_
      have e : d.inI lo hi = false := by
        cases d with
        | int n => exact absurd rfl ci
        | _ => rfl
      rw [e] at q
      exact q
/-! is_listed: slots 0:value 1:most -/
abbrev s_is_listed : Stmt := topS 27
theorem sc_is_listed : FnScope ["value", "most"] ["value", "most"] (defScope s_is_listed) := ⟨rfl, rfl, rfl, by decide +kernel, rfl, by decide +kernel, by decide +kernel⟩
def sp_is_listed : Sp := fun vs H Q _ => ∃ (v : V) (d : Dat) (m : Int), vs = [v, .int m] ∧ Rp H v d ∧ ∀ H', Same H H' → Q (.bl (d.listed m)) H'
theorem ok_is_listed (D : Df K mg "is_listed" s_is_listed) (T : Tx mg) : Has P w K mg base 1 "is_listed" ["value", "most"] sp_is_listed := by
  refine has_of D sc_is_listed (fun _ _ _ _ _ _ us hl => match us, hl with | [_, _], _ => rfl) (fun vs H Q E h => ?_) (fun f cdv A outer s H vs Q E hr h => ?_)
  · obtain ⟨v, d, m, rfl, _⟩ := h
    rfl
  · obtain ⟨v, d, m, rfl, hv, q⟩ := h
    refine ⟨_, (pss_one (ps_ret (pe_and (pe_callB call_isiT (by rfl) T.n_isinstance (by decide +kernel) (pa_cons (pv 0) (pa_cons (pe_tup (pa_cons (pe_bltn (v := .ty "list") (by rfl) T.n_list (by decide +kernel) rfl) (pa_cons (pe_bltn (v := .ty "tuple") (by rfl) T.n_tuple (by decide +kernel) rfl) pa_nil))) pa_nil))) (pe_one (pe_cmpR op_le (pe_callB call_len_seq (by rfl) T.n_len (by decide +kernel) (pa_cons (pv 0) pa_nil)) (pv 1) (nomark _)))))), ?_⟩
    refine ⟨_, rfl, (by show 2 ≤ sizeLine; decide), fun t nt => ?_⟩
    have q := q _ (same_upd (o := .tup [.ty "list", .ty "tuple"]) nt)
    have hv := hv.same (same_upd (o := .tup [.ty "list", .ty "tuple"]) nt)
    cases hd : d.parts with
    | none =>
      obtain ⟨tv, h1, h2⟩ := hv.noSeq (K := K) hd
      refine ⟨_, t, _, _, _, false, rfl, upd_same, .cons (.ty "list") (.cons (.ty "tuple") .nil), h1, h2, false, rfl, iteF ?_⟩
      rw [show d.listed m = false by unfold Dat.listed; rw [hd]] at q
      exact q
    | some l =>
      obtain ⟨a, xs, rfl, hx, hp⟩ := hv.seq hd
      have ll : xs.length = l.length := Paired.len hp
      rw [show d.listed m = decide ((xs.length : Int) ≤ m) by unfold Dat.listed; rw [hd, ll]] at q
      rcases hx with hx | hx
      · refine ⟨_, t, _, _, _, true, rfl, upd_same, .cons (.ty "list") (.cons (.ty "tuple") .nil), .base (.lst hx), kit_lst, true, rfl, iteT ?_⟩
        exact ⟨_, rfl, _, _, rfl, .inl (.of hx), _, rfl, _, _, rfl, rfl, q⟩
      · refine ⟨_, t, _, _, _, true, rfl, upd_same, .cons (.ty "list") (.cons (.ty "tuple") .nil), .base (.tup hx), kit_tup, true, rfl, iteT ?_⟩
        exact ⟨_, rfl, _, _, rfl, .inr (.of hx), _, rfl, _, _, rfl, rfl, q⟩
/-! is_couple: slots 0:value -/
abbrev s_is_couple : Stmt := topS 28
theorem sc_is_couple : FnScope ["value"] ["value"] (defScope s_is_couple) := ⟨rfl, rfl, rfl, by decide +kernel, rfl, by decide +kernel, by decide +kernel⟩
def sp_is_couple : Sp := fun vs H Q _ => ∃ (v : V) (d : Dat), vs = [v] ∧ Rp H v d ∧ ∀ H', Same H H' → Q (.bl d.couple) H'
theorem ok_is_couple (D : Df K mg "is_couple" s_is_couple) (T : Tx mg) : Has P w K mg base 1 "is_couple" ["value"] sp_is_couple := by
  refine has_of D sc_is_couple (fun _ _ _ _ _ _ us hl => match us, hl with | [_], _ => rfl) (fun vs H Q E h => ?_) (fun f cdv A outer s H vs Q E hr h => ?_)
  · obtain ⟨v, d, rfl, _⟩ := h
    rfl
  · obtain ⟨v, d, rfl, hv, q⟩ := h
    refine ⟨_, (pss_one (ps_ret (pe_and (pe_callB call_isiT (by rfl) T.n_isinstance (by decide +kernel) (pa_cons (pv 0) (pa_cons (pe_tup (pa_cons (pe_bltn (v := .ty "list") (by rfl) T.n_list (by decide +kernel) rfl) (pa_cons (pe_bltn (v := .ty "tuple") (by rfl) T.n_tuple (by decide +kernel) rfl) pa_nil))) pa_nil))) (pe_one (pe_cmpR op_eq (pe_callB call_len_seq (by rfl) T.n_len (by decide +kernel) (pa_cons (pv 0) pa_nil)) pe_int (nomark _)))))), ?_⟩
    refine ⟨_, rfl, (by show 2 ≤ sizeLine; decide), fun t nt => ?_⟩
    have q := q _ (same_upd (o := .tup [.ty "list", .ty "tuple"]) nt)
    have hv := hv.same (same_upd (o := .tup [.ty "list", .ty "tuple"]) nt)
    cases hd : d.parts with
    | none =>
      obtain ⟨tv, h1, h2⟩ := hv.noSeq (K := K) hd
      refine ⟨_, t, _, _, _, false, rfl, upd_same, .cons (.ty "list") (.cons (.ty "tuple") .nil), h1, h2, false, rfl, iteF ?_⟩
      rw [show d.couple = false by unfold Dat.couple; rw [hd]] at q
      exact q
    | some l =>
      obtain ⟨a, xs, rfl, hx, hp⟩ := hv.seq hd
      have ll : xs.length = l.length := Paired.len hp
      have eb : decide (V.int (xs.length : Int) = V.int 2) = d.couple := by
        unfold Dat.couple
        rw [hd]
        show _ = decide (l.length = 2)
        rw [← ll]
        exact decide_eq_decide.mpr ⟨fun z => by have := V.int.inj z; omega, fun z => by rw [z]; rfl⟩
      rw [← eb] at q
      rcases hx with hx | hx
      · exact ⟨_, t, _, _, _, true, rfl, upd_same, .cons (.ty "list") (.cons (.ty "tuple") .nil), .base (.lst hx), kit_lst, true, rfl, iteT ⟨_, rfl, _, _, rfl, .inl (.of hx), rfl, q⟩⟩
      · exact ⟨_, t, _, _, _, true, rfl, upd_same, .cons (.ty "list") (.cons (.ty "tuple") .nil), .base (.tup hx), kit_tup, true, rfl, iteT ⟨_, rfl, _, _, rfl, .inr (.of hx), rfl, q⟩⟩
end
end UP

set_option Elab.async false
set_option linter.all false
set_option maxRecDepth 100000
set_option maxHeartbeats 4000000
namespace UP
open PySem PySem.Spec PyProof.Rows L2
theorem iteP {b : Bool} {A B : Prop} (h : b = true) (x : A) : if b = true then A else B := by
  rw [if_pos h]
  exact x
theorem iteN {b : Bool} {A B : Prop} (h : b = false) (x : B) : if b = true then A else B := by
  rw [if_neg (by rw [h]; decide)]
  exact x
theorem yesT {σ : L2.St} {H : Hp} {A B : Hp → Prop} (h : A H) : tYes σ H (fun b H3 => if b = true then A H3 else B H3) := by
  show (if true = true then A H else B H)
  exact iteT h
theorem lc_gen {J : It} {n : Nat} {g : TG} {tt : TT} {te : TE} {vs : List Nat} {σ : L2.St} {H1 : Hp} {D : Addr} {Qd : Hp → Prop} (Pv : Nat → Hp → Prop) (h0 : Pv 0 (upd H1 D (.lst [])))
    (hg : ∀ i H, i < n → Pv i H → J.go i H) (hst : ∀ H, Pv n H → J.stop n H)
    (hs : ∀ i x H H', i < n → Pv i H → J.yld i H x H' → g x (wipe σ vs) H' fun σ2 H2 => wipe σ2 vs = wipe σ vs ∧ tt σ2 H2 fun b H3 =>
      if b = true then te σ2 H3 fun y H4 => ∃ acc, H4 D = some (.lst acc) ∧ acc.length < sizeLine ∧ Pv (i + 1) (upd H4 D (.lst (acc ++ [y]))) else Pv (i + 1) H3) (hd : ∀ H, Pv n H → Qd H) :
    ∃ W : Nat → Nat → Hp → Prop, (∃ m, W 0 m (upd H1 D (.lst []))) ∧ ∀ i m H, W i m H →
      (J.stop i H ∧ Qd H) ∨ (J.go i H ∧ ∃ Nx : Hp → Prop, (∀ H', Nx H' → ∃ m', m' < m ∧ W (i + 1) m' H') ∧ ∀ x H', J.yld i H x H' → g x (wipe σ vs) H' fun σ2 H2 => wipe σ2 vs = wipe σ vs ∧ tt σ2 H2 fun b H3 =>
        if b = true then te σ2 H3 fun y H4 => ∃ acc, H4 D = some (.lst acc) ∧ acc.length < sizeLine ∧ Nx (upd H4 D (.lst (acc ++ [y]))) else Nx H3) := by
  refine ⟨fun i m H => m = n - i ∧ i ≤ n ∧ Pv i H, ⟨n, by simp, Nat.zero_le _, h0⟩, ?_⟩
  rintro i m H ⟨rfl, hi, p⟩
  by_cases hlt : i < n
  · exact .inr ⟨hg i H hlt p, Pv (i + 1), fun H' p' => ⟨n - (i + 1), by omega, rfl, hlt, p'⟩, fun x H' y => hs i x H H' hlt p y⟩
  · have e : i = n := by omega
    subst e
    exact .inl ⟨hst H p, hd H p⟩
section
variable {X : Cx} {K : PySem.W.Frag}
theorem ix_tupK (h : X.K = K) : IxR X (rIxT K) := h ▸ ix_tup
theorem ix_listK (h : X.K = K) : IxR X (rIxL K) := h ▸ ix_list
theorem pg_tupK {es : List Expr} {k : Nat} {t : TGs} {n : Nat} {pos : Pos} (h : X.K = K) (hc : X.calm = true) (hp : PGs X es t)
    (hn : (assignEach es X.env).length = n := by rfl) (hst : (assignEach es X.env).findIdx? (fun z => z.1) = none := by rfl) : PG X (.Tuple es k pos) (gTup K n t) := by
  subst h
  exact pg_tup hc hp hn hst
theorem call_len_seqK (h : X.K = K) : CallR X (.builtin "len") (fun xs H Q => ∃ p ys, xs = [.ref p] ∧ (SqL K H p ys ∨ SqT K H p ys) ∧ Q (.int ys.length) H) := by
  subst h
  exact call_len_seq
end
theorem ix_seqK {X : Cx} {K : PySem.W.Frag} (h : X.K = K) : IxR X (rIx K) := h ▸ ix_seq
/-! ### lists that grow -/
theorem same_grow {H H4 : Hp} {D : Addr} {o : HO} (n : H D = none) (s : Same H H4) : Same H (upd H4 D o) := fun b x e => by
  rw [upd_ne (ne_of_none e n)]
  exact s b x e
theorem RunV.grow {H : Hp} {D : Addr} {acc acc' : List V} {v : V} {r : Run} (hD : H D = some (.lst acc)) (h : RunV H v r) : RunV (upd H D (.lst acc')) v r := by
  obtain ⟨t, e, h⟩ := h
  refine ⟨t, e, ?_⟩
  rw [upd_ne (ne_of h hD (by intro q; cases q))]
  exact h
theorem prs_grow {H : Hp} {D : Addr} {acc acc' : List V} {xs : List V} {rs : List Run} (hD : H D = some (.lst acc)) (h : Paired (RunV H) xs rs) : Paired (RunV (upd H D (.lst acc'))) xs rs := Paired.imp (fun _ _ => RunV.grow hD) h
theorem prs_same {H H' : Hp} {xs : List V} {rs : List Run} (s : Same H H') (h : Paired (RunV H) xs rs) : Paired (RunV H') xs rs := Paired.imp (fun _ _ => RunV.same s) h
theorem take_snoc {α : Type} {l : List α} {i : Nat} {x : α} (h : l[i]? = some x) : l.take (i + 1) = l.take i ++ [x] := by
  rw [List.take_add_one, h]
  rfl
theorem lc_wk {J : It} {H0 H1 : Hp} {xs : List V} {g : TG} {tt : TT} {te : TE} {vs : List Nat} {σ : L2.St} {D : Addr} {Qd : Hp → Prop} (wk : Wk J H0 xs) (Pv : Nat → Hp → Prop) (hsm : ∀ i H, Pv i H → Same H0 H) (h0 : Pv 0 (upd H1 D (.lst [])))
    (hs : ∀ i x H, xs[i]? = some x → Pv i H → g x (wipe σ vs) H fun σ2 H2 => wipe σ2 vs = wipe σ vs ∧ tt σ2 H2 fun b H3 =>
      if b = true then te σ2 H3 fun y H4 => ∃ acc, H4 D = some (.lst acc) ∧ acc.length < sizeLine ∧ Pv (i + 1) (upd H4 D (.lst (acc ++ [y]))) else Pv (i + 1) H3) (hd : ∀ H, Pv xs.length H → Qd H) :
    ∃ W : Nat → Nat → Hp → Prop, (∃ m, W 0 m (upd H1 D (.lst []))) ∧ ∀ i m H, W i m H →
      (J.stop i H ∧ Qd H) ∨ (J.go i H ∧ ∃ Nx : Hp → Prop, (∀ H', Nx H' → ∃ m', m' < m ∧ W (i + 1) m' H') ∧ ∀ x H', J.yld i H x H' → g x (wipe σ vs) H' fun σ2 H2 => wipe σ2 vs = wipe σ vs ∧ tt σ2 H2 fun b H3 =>
        if b = true then te σ2 H3 fun y H4 => ∃ acc, H4 D = some (.lst acc) ∧ acc.length < sizeLine ∧ Nx (upd H4 D (.lst (acc ++ [y]))) else Nx H3) := by
  refine lc_gen Pv h0 (fun i H hi p => wk.go i H (hsm i H p) hi) (fun H p => wk.stop H (hsm _ H p)) (fun i x H H' hi p y => ?_) hd
  obtain ⟨e, ex⟩ := wk.yld i x H H' (hsm i H p) y
  subst e
  exact hs i x _ ex p
theorem for_wk {J : It} {H0 H : Hp} {xs : List V} {g : TG} {tb : TS} {D : Ends} {σ : L2.St} (wk : Wk J H0 xs) (Pv : Nat → L2.St → Hp → Prop) (hsm : ∀ i σ H, Pv i σ H → Same H0 H) (h0 : Pv 0 σ H)
    (hs : ∀ i x σ H, xs[i]? = some x → Pv i σ H → g x σ H fun σ2 H2 => tb { D with nx := Pv (i + 1), ct := Pv (i + 1), bk := D.nx } σ2 H2) (hd : ∀ σ H, Pv xs.length σ H → D.nx σ H) :
    ∃ W : Nat → Nat → L2.St → Hp → Prop, (∃ m, W 0 m σ H) ∧ ∀ i m σ H, W i m σ H →
      (J.stop i H ∧ D.nx σ H) ∨ (J.go i H ∧ ∃ N : L2.St → Hp → Prop, (∀ σ' H', N σ' H' → ∃ m', m' < m ∧ W (i + 1) m' σ' H') ∧ ∀ x H', J.yld i H x H' → g x σ H' fun σ2 H2 => tb { D with nx := N, ct := N, bk := D.nx } σ2 H2) := by
  refine ⟨fun i m σ H => m = xs.length - i ∧ i ≤ xs.length ∧ Pv i σ H, ⟨xs.length, by omega, Nat.zero_le _, h0⟩, ?_⟩
  rintro i m σ H ⟨rfl, hi, p⟩
  by_cases hlt : i < xs.length
  · refine Or.inr ⟨wk.go i H (hsm i σ H p) hlt, Pv (i + 1), fun σ' H' p' => ⟨xs.length - (i + 1), by omega, rfl, hlt, p'⟩, fun x H' y => ?_⟩
    obtain ⟨e, ex⟩ := wk.yld i x H H' (hsm i σ H p) y
    subst e
    exact hs i x σ _ ex p
  · have e : i = xs.length := by omega
    subst e
    exact Or.inl ⟨wk.stop H (hsm _ σ H p), hd σ H p⟩
section
variable {P : Program} {w : World} {K : PySem.W.Frag} {mg : Str → Option Value} {base : Heap}
theorem lex1 {c d : Nat} : (!decide (([c] : List Nat) < [d])) = decide (d ≤ c) := by
  have e : (([c] : List Nat) < [d]) ↔ c < d := by
    rw [List.cons_lt_cons_iff]
    simp
  by_cases h : c < d
  · rw [decide_eq_true (e.mpr h), decide_eq_false (by omega)]
    rfl
  · rw [decide_eq_false (fun z => h (e.mp z)), decide_eq_true (by omega)]
    rfl
/-! ### what the functions say of such a value -/
def kindB (z : Str) : Bool := decide (1 ≤ (z.length : Int) ∧ (z.length : Int) ≤ 8) && z.cps.toList.all fun c => decide (97 ≤ c ∧ c ≤ 122)
def Dat.kind : Dat → Bool
  | .str z => kindB z
  | _ => false
/-- its text, if it is one, is not too long -/
def Dat.fit : Dat → Prop
  | .str z => z.length ≤ 4000
  | _ => True
def Dat.two (d : Dat) : Option (Dat × Dat) := match d.parts with
  | some [x, y] => some (x, y)
  | _ => none
def Dat.run (d : Dat) : Bool := match d.two with
  | some (x, y) => x.kind && y.inI 1 1000000000000000000000000000000
  | none => false
def Dat.pos : Dat → Bool
  | .int n => decide (1 ≤ n)
  | _ => false
def Dat.state (d : Dat) : Bool := match d with
  | .non => true
  | d => match d.two with
    | some (x, y) => x.kind && y.pos
    | none => false
def Dat.fit2 (d : Dat) : Prop := ∀ x y, d.two = some (x, y) → x.fit
theorem kitS {K : PySem.W.Frag} {H : Hp} {v : V} {d : Dat} (h : Rp H v d) (hn : ∀ z, d ≠ .str z) : ∃ t, TyX K H v t ∧ PySem.W.kitOne K t (.type "str") = some false := by
  cases h with
  | non => exact ⟨_, .base .non, kit_ty (by decide +kernel)⟩
  | bl b => exact ⟨_, .base (.bl b), kit_ty (by decide +kernel)⟩
  | int n => exact ⟨_, .base (.int n), kit_ty (by decide +kernel)⟩
  | str z => exact absurd rfl (hn z)
  | dic e => exact ⟨_, .base (.dK e), kit_ty (by decide +kernel)⟩
  | lst e _ => exact ⟨_, .base (.lst e), kit_ty (by decide +kernel)⟩
  | tup e _ => exact ⟨_, .base (.tup e), kit_ty (by decide +kernel)⟩
theorem all_map {α : Type} (l : List α) (f : α → Bool) : ((l.map f).all id) = l.all f := by
  induction l with
  | nil => rfl
  | cons x t ih => rw [List.map_cons, List.all_cons, List.all_cons, ih]; rfl
/-! is_kind: slots 0:value 1:letter -/
abbrev s_is_kind : Stmt := topS 29
theorem sc_is_kind : FnScope ["value", "letter"] ["value"] (defScope s_is_kind) := ⟨rfl, rfl, rfl, by decide +kernel, rfl, by decide +kernel, by decide +kernel⟩
def sp_is_kind : Sp := fun vs H Q _ => ∃ (v : V) (d : Dat), vs = [v] ∧ Rp H v d ∧ d.fit ∧ ∀ H', Same H H' → Q (.bl d.kind) H'
theorem ok_is_kind (D : Df K mg "is_kind" s_is_kind) (T : Tx mg) : Has P w K mg base 1 "is_kind" ["value"] sp_is_kind := by
  refine has_of D sc_is_kind (fun _ _ _ _ _ _ us hl => match us, hl with | [_], _ => rfl) (fun vs H Q E h => ?_) (fun f cdv A outer s H vs Q E hr h => ?_)
  · obtain ⟨v, d, rfl, _⟩ := h
    rfl
  · obtain ⟨v, d, rfl, hv, fit, q⟩ := h
    refine ⟨_, (pss_cons (ps_if (PW.pt (pw_or (pt_not (pt_val (pe_callB call_isi (by rfl) T.n_isinstance (by decide +kernel) (pa_cons (pv 0) (pa_cons (pe_bltn (v := .ty "str") (by rfl) T.n_str (by decide +kernel) rfl) pa_nil))))) (pw_or1 (pt_not (pt_chain op_le op_le pe_int (pe_callB call_len_str (by rfl) T.n_len (by decide +kernel) (pa_cons (pv 0) pa_nil)) (pe_glI T.c_MAX_LETTERS (by rfl))))))) (pss_one (ps_ret pe_bl)) pss_nil)
    (pss_one (ps_ret (pe_callB (cr_all rfl) (by rfl) T.n_all (by decide +kernel) (pa_cons (pe_lc (own := [("letter", 1)]) rfl sc_is_kind.nd (pi_str (pv 0)) (blkOk_by (N := ["value", "letter"]) (sc := defScope s_is_kind) (by decide +kernel)) (fun _ _ _ _ _ => (pg_name (i := 1) sc_is_kind.nd rfl (by first | exact Or.inl rfl | exact Or.inr rfl))) (fun _ _ _ _ _ => pts_nil) (fun _ _ _ _ _ => (pe_chain op_le_str op_le_str pe_str (pv 1) pe_str))) pa_nil))))), ?_⟩
    by_cases hn : ∀ z, d ≠ .str z
    · obtain ⟨t, h1, h2⟩ := kitS (K := K) hv hn
      have e : d.kind = false := by
        cases d with
        | str z => exact absurd rfl (hn z)
        | _ => rfl
      rw [e] at q
      exact ⟨_, rfl, _, _, _, _, false, rfl, .ty "str", h1, h2, false, rfl, iteT (q H (Same.refl H))⟩
    have hn : ∃ z, d = .str z := by
      apply Classical.byContradiction
      intro c
      exact hn fun z e => c ⟨z, e⟩
    obtain ⟨z, rfl⟩ := hn
    cases hv
    have fit : z.length ≤ 4000 := fit
    refine ⟨_, rfl, _, _, _, _, true, rfl, .ty "str", .base (.str z), kit_ty (by decide +kernel), true, rfl, iteF ?_⟩
    have no : ¬ (1 ≤ (z.length : Int) ∧ (z.length : Int) ≤ 8) → (Dat.str z).kind = false := fun c => by
      show (decide _ && _) = false
      rw [decide_eq_false c]
      rfl
    refine ⟨_, rfl, z, rfl, smallE (by omega), _, _, rfl, rfl, _, rfl, ?_⟩
    by_cases c1 : (1 : Int) ≤ (z.length : Int)
    · refine iteP (decide_eq_true c1) ⟨_, _, rfl, rfl, _, rfl, ?_⟩
      by_cases c2 : (z.length : Int) ≤ 8
      · refine iteN ?_ ?_
        · show (!decide ((z.length : Int) ≤ 8)) = false
          rw [decide_eq_true c2]
          rfl
        refine ⟨_, rfl, z, rfl, fun L nL => lc_gen (n := z.cps.size) (fun i H' => Same H H' ∧ H' L = some (.lst (((z.cps.toList.take i).map fun c => decide (97 ≤ c ∧ c ≤ 122)).map V.bl))) ⟨same_upd nL, upd_same⟩ (fun i H' hi _ => hi) (fun H' _ => Nat.le_refl _) (fun i x H1 H2 hi p y => ?_) (fun H' p => ?_)⟩
        · obtain ⟨rfl, c, ec, rfl⟩ := y
          obtain ⟨sm, hL⟩ := p
          have ec' : z.cps.toList[i]? = some c := by
            rw [Array.getElem?_toList]
            exact ec
          have ea : ("a" : Str).cps.toList = [97] := by decide +kernel
          have ez : ("z" : Str).cps.toList = [122] := by decide +kernel
          have lim : (((z.cps.toList.take i).map fun c => decide (97 ≤ c ∧ c ≤ 122)).map V.bl).length < sizeLine := by
            simp only [List.length_map, List.length_take]
            exact small (by have : z.cps.size = z.length := rfl; omega)
          have put : ∀ b : Bool, b = decide (97 ≤ c ∧ c ≤ 122) → Same H (upd H2 L (.lst ((((z.cps.toList.take i).map fun c => decide (97 ≤ c ∧ c ≤ 122)).map V.bl) ++ [V.bl b]))) ∧ (upd H2 L (.lst ((((z.cps.toList.take i).map fun c => decide (97 ≤ c ∧ c ≤ 122)).map V.bl) ++ [V.bl b]))) L = some (.lst (((z.cps.toList.take (i + 1)).map fun c => decide (97 ≤ c ∧ c ≤ 122)).map V.bl)) := by
            intro b hb
            refine ⟨same_grow nL sm, ?_⟩
            rw [upd_same, take_snoc ec', List.map_append, List.map_append, hb]
            rfl
          have t1 : (!decide (([c] : List Nat) < ("a" : Str).cps.toList)) = decide (97 ≤ c) := by rw [ea, lex1]
          have t2 : (!decide ((("z" : Str).cps.toList) < ([c] : List Nat))) = decide (c ≤ 122) := by rw [ez, lex1]
          refine ⟨rfl, yesT ⟨_, rfl, _, _, rfl, rfl, _, rfl, ?_⟩⟩
          by_cases b1 : 97 ≤ c
          · refine iteP (t1.trans (decide_eq_true b1)) ⟨_, _, rfl, rfl, _, hL, lim, put _ ?_⟩
            exact t2.trans (decide_eq_decide.mpr ⟨fun z => ⟨b1, z⟩, fun z => z.2⟩)
          · refine iteN (t1.trans (decide_eq_false b1)) ⟨_, hL, lim, put _ ?_⟩
            exact (decide_eq_false (p := 97 ≤ c ∧ c ≤ 122) (fun z => b1 z.1)).symm
        · refine ⟨L, _, rfl, .of p.2, ?_⟩
          have e : (((z.cps.toList.take z.cps.size).map fun c => decide (97 ≤ c ∧ c ≤ 122)).all id) = (Dat.str z).kind := by
            rw [all_map, List.take_of_length_le (by rw [Array.length_toList]; exact Nat.le_refl _)]
            show _ = (decide _ && _)
            rw [decide_eq_true ⟨c1, c2⟩]
            rfl
          rw [e]
          exact q H' p.1
      · refine iteP ?_ ?_
        · show (!decide ((z.length : Int) ≤ 8)) = true
          rw [decide_eq_false c2]
          rfl
        rw [no fun k => c2 k.2] at q
        exact q H (Same.refl H)
    · rw [no fun k => c1 k.1] at q
      exact iteN (decide_eq_false c1) ⟨_, rfl, iteT (q H (Same.refl H))⟩
theorem at0 {α : Type} {x y : α} : atI [x, y] 0 = some x := rfl
theorem at1 {α : Type} {x y : α} : atI [x, y] 1 = some y := rfl
theorem ix0 {K : PySem.W.Frag} {H : Hp} {t : Addr} {x y : V} {Q : VK} (h : Sq2 H t [x, y]) (q : Q x H) : rIx K (.ref t) (.int 0) H Q := h.elim (fun z => .inl ⟨t, _, 0, _, rfl, rfl, .of z, at0, q⟩) (fun z => .inr (.inl ⟨t, _, 0, _, rfl, rfl, .of z, at0, q⟩))
theorem ix1 {K : PySem.W.Frag} {H : Hp} {t : Addr} {x y : V} {Q : VK} (h : Sq2 H t [x, y]) (q : Q y H) : rIx K (.ref t) (.int 1) H Q := h.elim (fun z => .inl ⟨t, _, 1, _, rfl, rfl, .of z, at1, q⟩) (fun z => .inr (.inl ⟨t, _, 1, _, rfl, rfl, .of z, at1, q⟩))
theorem Rp.two {H : Hp} {v : V} {d x y : Dat} (h : Rp H v d) (e : d.two = some (x, y)) : ∃ a vx vy, v = .ref a ∧ Sq2 H a [vx, vy] ∧ Rp H vx x ∧ Rp H vy y := by
  cases hp : d.parts with
  | none =>
    unfold Dat.two at e
    rw [hp] at e
    cases e
  | some l =>
    obtain ⟨a, xs, rfl, hx, hq⟩ := h.seq hp
    unfold Dat.two at e
    rw [hp] at e
    cases hq with
    | nil => cases e
    | cons h1 t1 =>
      cases t1 with
      | nil => cases e
      | cons h2 t2 =>
        cases t2 with
        | nil =>
          cases e
          exact ⟨a, _, _, rfl, hx, h1, h2⟩
        | cons h3 t3 => cases e
theorem couple_two {d : Dat} : d.couple = d.two.isSome := by
  unfold Dat.couple Dat.two
  cases d.parts with
  | none => rfl
  | some l =>
    match l with
    | [] => rfl
    | [x] => rfl
    | [x, y] => rfl
    | x :: y :: z :: t =>
      show decide ((x :: y :: z :: t).length = 2) = false
      exact decide_eq_false (by simp only [List.length_cons]; omega)
/-! is_run: slots 0:value -/
abbrev s_is_run : Stmt := topS 30
theorem sc_is_run : FnScope ["value"] ["value"] (defScope s_is_run) := ⟨rfl, rfl, rfl, by decide +kernel, rfl, by decide +kernel, by decide +kernel⟩
def sp_is_run : Sp := fun vs H Q _ => ∃ (v : V) (d : Dat), vs = [v] ∧ Rp H v d ∧ d.fit2 ∧ ∀ H', Same H H' → Q (.bl d.run) H'
theorem ok_is_run (D : Df K mg "is_run" s_is_run) (T : Tx mg) (G_is_couple : Has P w K mg base 1 "is_couple" ["value"] sp_is_couple) (G_is_kind : Has P w K mg base 1 "is_kind" ["value"] sp_is_kind) (G_is_within : Has P w K mg base 2 "is_within" ["value", "low", "high"] sp_is_within) :
    Has P w K mg base 3 "is_run" ["value"] sp_is_run := by
  refine has_of D sc_is_run (fun _ _ _ _ _ _ us hl => match us, hl with | [_], _ => rfl) (fun vs H Q E h => ?_) (fun f cdv A outer s H vs Q E hr h => ?_)
  · obtain ⟨v, d, rfl, _⟩ := h
    rfl
  · obtain ⟨v, d, rfl, hv, fit, q⟩ := h
    refine ⟨_, (pss_one (ps_ret (pe_and (pe_callH G_is_couple (hr.mono (by omega)) (by rfl) (pa_cons (pv 0) pa_nil)) (pe_and (pe_callH G_is_kind (hr.mono (by omega)) (by rfl) (pa_cons (pe_ix ix_seq (pv 0) pe_int (fun _ _ => rfl)) pa_nil)) (pe_one (pe_callH G_is_within (hr.mono (by omega)) (by rfl) (pa_cons (pe_ix ix_seq (pv 0) pe_int (fun _ _ => rfl)) (pa_cons pe_int (pa_cons (pe_glI T.c_MAX_COUNT (by rfl)) pa_nil))))))))), ?_⟩
    refine ⟨_, rfl, v, d, rfl, hv, fun H1 s1 => ⟨d.couple, rfl, ?_⟩⟩
    cases ht : d.two with
    | none =>
      have e1 : d.couple = false := by rw [couple_two, ht]; rfl
      have e2 : d.run = false := by unfold Dat.run; rw [ht]
      rw [e2] at q
      refine iteN e1 ?_
      exact q _ s1
    | some p =>
      obtain ⟨x, y⟩ := p
      have e1 : d.couple = true := by rw [couple_two, ht]; rfl
      have e2 : d.run = (x.kind && y.inI 1 1000000000000000000000000000000) := by unfold Dat.run; rw [ht]
      rw [e2] at q
      obtain ⟨a, vx, vy, rfl, hs, hx, hy⟩ := hv.two ht
      refine iteP e1 ?_
      refine ⟨_, rfl, ix0 (hs.same s1) ⟨vx, x, rfl, hx.same s1, fit x y ht, fun H2 s2 => ⟨x.kind, rfl, ?_⟩⟩⟩
      by_cases ck : x.kind = true
      · refine iteP ck ?_
        rw [ck] at q
        refine ⟨_, rfl, ix1 ((hs.same s1).same s2) ⟨vy, y, 1, _, rfl, hy.same (s1.trans s2), q _ (s1.trans s2)⟩⟩
      · have ck : x.kind = false := by simpa using ck
        refine iteN ck ?_
        rw [ck] at q
        exact q _ (s1.trans s2)
end
end UP

set_option Elab.async false
set_option linter.all false
set_option maxRecDepth 100000
set_option maxHeartbeats 4000000
namespace UP
open PySem PySem.Spec PyProof.Rows L2
/-- the kind of a run -/
def Dat.key (d : Dat) : Str := match d.two with
  | some (.str z, _) => z
  | _ => ""
def keyAt (l : List Dat) (i : Nat) : Str := match l[i]? with
  | some d => d.key
  | none => ""
def stepB (l : List Dat) (i : Nat) : Bool := !decide (V.str (keyAt l i) = V.str (keyAt l (i + 1)))
def Dat.seq (d : Dat) : Bool := match d.parts with
  | some l => decide ((l.length : Int) ≤ 400) && (l.all Dat.run && ((List.range (l.length - 1)).map (stepB l)).all id)
  | none => false
def Dat.fits (d : Dat) : Prop := ∀ l, d.parts = some l → l.length ≤ 100000 ∧ ∀ x ∈ l, x.fit2
theorem run_two {d : Dat} (h : d.run = true) : ∃ z y, d.two = some (.str z, y) ∧ d.key = z := by
  unfold Dat.run at h
  cases ht : d.two with
  | none => rw [ht] at h; cases h
  | some p =>
    obtain ⟨x, y⟩ := p
    rw [ht] at h
    have h : (x.kind && y.inI 1 1000000000000000000000000000000) = true := h
    cases x with
    | str z => exact ⟨z, y, rfl, by unfold Dat.key; rw [ht]⟩
    | _ => cases h
theorem range_snoc {α : Type} (f : Nat → α) (i : Nat) : (List.range (i + 1)).map f = (List.range i).map f ++ [f i] := by
  rw [List.range_succ, List.map_append]
  rfl
section
variable {P : Program} {w : World} {K : PySem.W.Frag} {mg : Str → Option Value} {base : Heap}
/-! is_sequence: slots 0:value 1:run 2:following -/
abbrev s_is_sequence : Stmt := topS 31
theorem sc_is_sequence : FnScope ["value", "run", "following"] ["value"] (defScope s_is_sequence) := ⟨rfl, rfl, rfl, by decide +kernel, rfl, by decide +kernel, by decide +kernel⟩
def sp_is_sequence : Sp := fun vs H Q _ => ∃ (v : V) (d : Dat), vs = [v] ∧ Rp H v d ∧ d.fits ∧ ∀ H', Same H H' → Q (.bl d.seq) H'
theorem ok_is_sequence (D : Df K mg "is_sequence" s_is_sequence) (T : Tx mg) (G_is_listed : Has P w K mg base 1 "is_listed" ["value", "most"] sp_is_listed) (G_is_run : Has P w K mg base 3 "is_run" ["value"] sp_is_run) :
    Has P w K mg base 4 "is_sequence" ["value"] sp_is_sequence := by
  refine has_of D sc_is_sequence (fun _ _ _ _ _ _ us hl => match us, hl with | [_], _ => rfl) (fun vs H Q E h => ?_) (fun f cdv A outer s H vs Q E hr h => ?_)
  · obtain ⟨v, r, rfl, _⟩ := h
    rfl
  · obtain ⟨v, d, rfl, hv, fit, q⟩ := h
    refine ⟨_, (pss_cons (ps_if (PW.pt (pw_or (pt_not (pt_val (pe_callH G_is_listed (hr.mono (by omega)) (by rfl) (pa_cons (pv 0) (pa_cons (pe_glI T.c_MAX_RUNS (by rfl)) pa_nil))))) (pw_or1 (pt_not (pt_val (pe_callB (cr_all rfl) (by rfl) T.n_all (by decide +kernel) (pa_cons (pe_lc (own := [("run", 1)]) rfl sc_is_sequence.nd (pi_seqV 0) (blkOk_by (N := ["value", "run", "following"]) (sc := defScope s_is_sequence) (by decide +kernel)) (fun _ _ _ _ _ => (pg_name (i := 1) sc_is_sequence.nd rfl (by first | exact Or.inl rfl | exact Or.inr rfl))) (fun _ _ _ _ _ => pts_nil) (fun _ _ _ _ _ => (pe_callH G_is_run (hr.mono (by omega)) (by rfl) (pa_cons (pv 1) pa_nil)))) pa_nil))))))) (pss_one (ps_ret pe_bl)) pss_nil)
    (pss_one (ps_ret (pe_callB (cr_all rfl) (by rfl) T.n_all (by decide +kernel) (pa_cons (pe_lc (own := [("run", 1), ("following", 2)]) rfl sc_is_sequence.nd (pi_zip1 (i := 0) (RZ.pi_zipA (by rfl) T.n_zip (pa_cons (pv 0) (pa_cons (pe_slice (SlR.or sl_list sl_tupA) (pv 0) (po_some pe_int) po_none) pa_nil))) (fun _ _ _ q => ⟨1, rfl, q⟩) (fun _ _ _ q => q)) (blkOk_by (N := ["value", "run", "following"]) (sc := defScope s_is_sequence) (by decide +kernel)) (fun _ _ _ _ _ => (pg_tupK (K := K) (n := 2) rfl rfl (pgs_cons (pg_name (i := 1) sc_is_sequence.nd rfl (by first | exact Or.inl rfl | exact Or.inr rfl)) (pgs_cons (pg_name (i := 2) sc_is_sequence.nd rfl (by first | exact Or.inl rfl | exact Or.inr rfl)) pgs_nil)))) (fun _ _ _ _ _ => pts_nil) (fun _ _ _ _ _ => (pe_cmpR op_ne (pe_ix (ix_seqK (K := K) rfl) (pv 1) pe_int (fun _ _ => rfl)) (pe_ix (ix_seqK (K := K) rfl) (pv 2) pe_int (fun _ _ => rfl)) (nomark _)))) pa_nil))))), ?_⟩
    refine ⟨_, rfl, v, d, 400, rfl, hv, fun H1 s1 => ⟨_, rfl, ?_⟩⟩
    by_cases cl : d.listed 400 = true
    · refine iteN (by rw [cl]; rfl) ?_
      obtain ⟨l, hd⟩ : ∃ l, d.parts = some l := by
        cases hp : d.parts with
        | some l => exact ⟨l, rfl⟩
        | none =>
          unfold Dat.listed at cl
          rw [hp] at cl
          cases cl
      obtain ⟨a, xs, rfl, hx, hp⟩ := hv.seq hd
      have lx : xs.length = l.length := Paired.len hp
      obtain ⟨l5, fit⟩ := fit l hd
      have l4 : (l.length : Int) ≤ 400 := by
        unfold Dat.listed at cl
        rw [hd] at cl
        exact of_decide_eq_true cl
      have e0 : d.seq = (l.all Dat.run && ((List.range (l.length - 1)).map (stepB l)).all id) := by
        unfold Dat.seq
        rw [hd]
        show (decide _ && _) = _
        rw [decide_eq_true l4]
        rfl
      rw [e0] at q
      refine ⟨a, xs, rfl, hx.same s1, fun J wk L nL => lc_wk wk (fun i H' => Same H1 H' ∧ H' L = some (.lst (((l.take i).map Dat.run).map V.bl))) (fun _ _ p => p.1) ⟨same_upd nL, upd_same⟩ (fun i x H2 ex p => ?_) (fun H2 p => ?_)⟩
      · obtain ⟨sm, hL⟩ := p
        obtain ⟨r, er, hr1⟩ := Paired.at hp ex
        have hi : i < xs.length := (List.getElem?_eq_some_iff.mp ex).1
        refine ⟨rfl, yesT ⟨_, rfl, x, r, rfl, hr1.same (s1.trans sm), fit r (List.mem_of_getElem? er), fun H3 s3 => ⟨_, s3 _ _ hL, ?_, same_grow nL (sm.trans s3), ?_⟩⟩⟩
        · simp only [List.length_map, List.length_take]
          exact small (by omega)
        · rw [upd_same, take_snoc er, List.map_append, List.map_append]
          rfl
      · rw [lx, List.take_length] at p
        refine ⟨L, _, rfl, .of p.2, _, rfl, ?_⟩
        rw [all_map]
        have s2 : Same H H2 := s1.trans p.1
        by_cases ca : l.all Dat.run = true
        · rw [ca] at q
          refine iteN (by rw [ca]; rfl) ?_
          have rok : ∀ (i : Nat) (x : Dat), l[i]? = some x → x.run = true := fun i x h => List.all_eq_true.mp ca x (List.mem_of_getElem? h)
          refine ⟨a, xs, rfl, hx.same s2, fun J Hc sc wk M nM => ?_⟩
          have sA : Same H Hc := s2.trans sc
          refine lc_gen (n := xs.length - 1) (fun i H' => Same Hc H' ∧ H' M = some (.lst (((List.range i).map (stepB l)).map V.bl))) ⟨same_upd nM, upd_same⟩ (fun i H' hi p => wk.go i H' p.1 (by omega)) (fun H' p => wk.stop H' p.1) (fun i x H3 H4 hi p y => ?_) (fun H' p => ?_)
          · obtain ⟨T', x1, x2, rfl, nT, rfl, g1, g2⟩ := wk.yld i x H3 H4 p.1 y
            obtain ⟨sm, hM⟩ := p
            have g2 := g2 (by omega)
            have sB : Same H H3 := sA.trans sm
            obtain ⟨r1, e1, v1⟩ := Paired.at hp g1
            obtain ⟨r2, e2, v2⟩ := Paired.at hp g2
            obtain ⟨z1, y1, t1, k1⟩ := run_two (rok _ _ e1)
            obtain ⟨z2, y2, t2, k2⟩ := run_two (rok _ _ e2)
            obtain ⟨a1, u1, u1', rfl, w1, m1, _⟩ := (v1.same (sB.trans (same_upd (o := .tup [x1, x2]) nT))).two t1
            obtain ⟨a2, u2, u2', rfl, w2, m2, _⟩ := (v2.same (sB.trans (same_upd (o := .tup [_, x2]) nT))).two t2
            cases m1
            cases m2
            refine ⟨T', _, rfl, .of upd_same, rfl, _, _, rfl, _, _, rfl, rfl, rfl, yesT ?_⟩
            refine ⟨_, rfl, ix0 w1 ⟨_, rfl, ix0 w2 ⟨rfl, _, same_upd nT _ _ hM, ?_, same_grow nM (sm.trans (same_upd nT)), ?_⟩⟩⟩
            · simp only [List.length_map, List.length_range]
              exact small (by omega)
            · rw [upd_same, range_snoc, List.map_append]
              have eb : stepB l i = !decide (V.str z1 = V.str z2) := by
                unfold stepB keyAt
                rw [e1, e2]
                show (!decide (V.str r1.key = V.str r2.key)) = _
                rw [k1, k2]
              rw [← eb]
              rfl
          · refine ⟨M, _, rfl, .of p.2, ?_⟩
            rw [lx]
            exact q _ (sA.trans p.1)
        · have ca : l.all Dat.run = false := by simpa using ca
          rw [ca] at q
          exact iteP (by rw [ca]; rfl) (q _ s2)
    · have cl : d.listed 400 = false := by simpa using cl
      have e0 : d.seq = false := by
        unfold Dat.listed at cl
        unfold Dat.seq
        cases hp : d.parts with
        | none => rfl
        | some l =>
          rw [hp] at cl
          have cl : decide ((l.length : Int) ≤ 400) = false := cl
          show (decide _ && _) = false
          rw [cl]
          rfl
      rw [e0] at q
      exact iteP (by rw [cl]; rfl) (q _ s1)
end
end UP

set_option Elab.async false
set_option linter.all false
set_option maxRecDepth 100000
set_option maxHeartbeats 4000000
namespace UP
open PySem PySem.Spec PyProof.Rows L2
/-! ### functions that may raise -/
section
variable (P : Program) (w : World) (K : PySem.W.Frag) (mg : Str → Option Value) (base : Heap)
def HasX (k : Nat) (x : Str) (ps : List Str) (sp : Sp) : Prop :=
  ∃ f fd, mg x = some (.ref f) ∧ PySem.W.keepIn K (.ref f) = true ∧ Binds K fd ps [] ∧ FnOk P w K mg base (L2.CX P w) k f fd ps sp
end
/-- the class x of errors stands at C -/
structure Ex (K : PySem.W.Frag) (mg : Str → Option Value) (x : Str) (C : Addr) : Prop where
  g : mg x = some (.ref C)
  x : PySem.W.excIn K C [.type "ValueError", .type "Exception", .type "BaseException", .type "object"] "ValueError.__new__" = true
  k : PySem.W.keepIn K (.ref C) = true
  b : PySem.W.subIn K (.ref C) (.type "BaseException") = some true
  t : PySem.W.typeIn K (.ref C) = some (.type "type")
/-! ### values that are runs, sequences, states -/
def Dat.rr (d : Dat) : Run := match d.two with
  | some (.str z, .int n) => (z, n)
  | _ => ("", 0)
def Dat.stt (d : Dat) : Option Run := match d with
  | .non => none
  | d => some d.rr
def Dat.runs (d : Dat) : List Run := match d.parts with
  | some l => l.map Dat.rr
  | none => []
theorem kind_ok {z : Str} (h : kindB z = true) : KindOk z := by
  unfold kindB at h
  have h := Bool.and_eq_true_iff.mp h
  have h1 := of_decide_eq_true h.1
  refine ⟨by omega, by omega, fun c hc => ?_⟩
  exact of_decide_eq_true (List.all_eq_true.mp h.2 c hc)
theorem run_str {d : Dat} (h : d.run = true) : ∃ z n, d.two = some (.str z, .int n) ∧ d.rr = (z, n) ∧ d.key = z ∧ KindOk z ∧ 1 ≤ n ∧ n ≤ 1000000000000000000000000000000 := by
  obtain ⟨z, y, ht, hk⟩ := run_two h
  unfold Dat.run at h
  rw [ht] at h
  have h := Bool.and_eq_true_iff.mp (show (kindB z && y.inI 1 1000000000000000000000000000000) = true from h)
  cases y with
  | int n =>
    have h2 : 1 ≤ n ∧ n ≤ 1000000000000000000000000000000 := of_decide_eq_true h.2
    exact ⟨z, n, ht, by unfold Dat.rr; rw [ht], hk, kind_ok h.1, h2.1, h2.2⟩
  | _ => cases h.2
theorem run_rp {H : Hp} {v : V} {d : Dat} (hv : Rp H v d) (h : d.run = true) : RunG H v d.rr ∧ RunOk d.rr := by
  obtain ⟨z, n, ht, hr, _, k, n1, n2⟩ := run_str h
  obtain ⟨a, vx, vy, rfl, hs, hx, hy⟩ := hv.two ht
  cases hx
  cases hy
  rw [hr]
  exact ⟨⟨a, rfl, hs⟩, k, n1, n2⟩
theorem seq_rp {H : Hp} {v : V} {d : Dat} (hv : Rp H v d) (h : d.seq = true) : RunsG H v d.runs ∧ SeqOk d.runs := by
  cases hd : d.parts with
  | none =>
    unfold Dat.seq at h
    rw [hd] at h
    cases h
  | some l =>
    unfold Dat.seq at h
    rw [hd] at h
    have h := Bool.and_eq_true_iff.mp (show (decide ((l.length : Int) ≤ 400) && (l.all Dat.run && ((List.range (l.length - 1)).map (stepB l)).all id)) = true from h)
    have h1 := of_decide_eq_true h.1
    have h2 := Bool.and_eq_true_iff.mp h.2
    have er : d.runs = l.map Dat.rr := by unfold Dat.runs; rw [hd]
    rw [er]
    obtain ⟨a, xs, rfl, hx, hp⟩ := hv.seq hd
    have ra : ∀ x ∈ l, x.run = true := fun x hx => List.all_eq_true.mp h2.1 x hx
    have pair : ∀ {xs : List V} {l : List Dat}, Paired (Rp H) xs l → (∀ x ∈ l, x.run = true) → Paired (RunG H) xs (l.map Dat.rr) := by
      intro xs l hp
      induction hp with
      | nil => intro _; exact .nil
      | cons h _ ih =>
        intro k
        exact .cons (run_rp h (k _ (List.mem_cons_self ..))).1 (ih fun x hx => k x (List.mem_cons_of_mem _ hx))
    refine ⟨⟨a, xs, rfl, hx, pair hp ra⟩, by rw [List.length_map]; omega, fun r hr => ?_, fun i x y ex ey => ?_⟩
    · obtain ⟨e, he, rfl⟩ := List.mem_map.mp hr
      obtain ⟨z, n, _, hr, _, k, n1, n2⟩ := run_str (ra e he)
      rw [hr]
      exact ⟨k, n1, n2⟩
    · rw [List.getElem?_map] at ex ey
      cases e1 : l[i]? with
      | none => rw [e1] at ex; cases ex
      | some p =>
        cases e2 : l[i + 1]? with
        | none => rw [e2] at ey; cases ey
        | some p2 =>
          rw [e1] at ex
          rw [e2] at ey
          cases ex
          cases ey
          have hi : i < l.length - 1 := by
            have := (List.getElem?_eq_some_iff.mp e2).1
            omega
          have st := List.all_eq_true.mp h2.2 (stepB l i) (List.mem_map.mpr ⟨i, List.mem_range.mpr hi, rfl⟩)
          obtain ⟨z1, n1, _, r1, k1, _⟩ := run_str (ra p (List.mem_of_getElem? e1))
          obtain ⟨z2, n2, _, r2, k2, _⟩ := run_str (ra p2 (List.mem_of_getElem? e2))
          unfold stepB keyAt at st
          rw [e1, e2] at st
          have st : (!decide (V.str p.key = V.str p2.key)) = true := st
          rw [k1, k2] at st
          rw [r1, r2]
          intro z
          have z : z1 = z2 := z
          rw [z, decide_eq_true rfl] at st
          cases st
theorem state_rp {H : Hp} {v : V} {d : Dat} (hv : Rp H v d) (h : d.state = true) : StG H v d.stt ∧ ∀ r, d.stt = some r → KindOk r.1 ∧ 1 ≤ r.2 := by
  by_cases dn : d = .non
  · subst dn
    cases hv
    exact ⟨rfl, fun r hr => by cases hr⟩
  have e0 : d.state = match d.two with
    | some (x, y) => x.kind && y.pos
    | none => false := by
    cases d with
    | non => exact absurd rfl dn
    | _ => rfl
  have e1 : d.stt = some d.rr := by
    cases d with
    | non => exact absurd rfl dn
    | _ => rfl
  rw [e0] at h
  rw [e1]
  cases ht : d.two with
  | none => rw [ht] at h; cases h
  | some p =>
    obtain ⟨x, y⟩ := p
    rw [ht] at h
    have h := Bool.and_eq_true_iff.mp (show (x.kind && y.pos) = true from h)
    obtain ⟨a, vx, vy, rfl, hs, hx, hy⟩ := hv.two ht
    cases hx with
    | str z =>
      cases hy with
      | int n =>
        have er : d.rr = (z, n) := by unfold Dat.rr; rw [ht]
        rw [er]
        exact ⟨⟨a, rfl, hs⟩, fun r hr => by cases hr; exact ⟨kind_ok h.1, of_decide_eq_true h.2⟩⟩
      | _ => cases h.2
    | _ => cases h.1
section
variable {P : Program} {w : World} {K : PySem.W.Frag} {mg : Str → Option Value} {base : Heap}
theorem hasX_of {x : Str} {st : Stmt} {ps N : List Str} {k : Nat} {sp : Sp} (D : Df K mg x st) (S : FnScope N ps (defScope st))
    (hb : ∀ (kV doc pm : Value) (an : Option Addr) (cdv ct : Value) (us : List Value), us.length = ps.length → bindArgs (PySem.W.fnOf x x (defArgs st) (defBody st) (defScope st) .none kV doc pm an cdv ct) ⟨us, []⟩ = pure (ps.zip us))
    (len : ∀ vs H Q E, sp vs H Q E → vs.length = ps.length)
    (body : ∀ (f : Addr) (cdv : Value) (A : Around) (outer : List Env) (s : Shared) (H : Hp) (vs : List V) (Q : VK) (E : XK), Room k (A.deeper (envOfC x (defScope st) s.heap.objs.size f cdv)) → sp vs H Q E →
      ∃ t, PSs (cxOf (L2.CX P w) P w K mg base N x (defScope st) f cdv A outer s H E) (defBody st) t ∧ t { nx := fun _ H' => Q .non H', rt := Q } (start N vs) H) :
    HasX P w K mg base (k + 1) x ps sp := by
  obtain ⟨f, fd, g, F⟩ := D
  exact ⟨f, fd, g, F.kp, F.binds hb, F.okX S len fun cdv A outer s H vs Q E hr h => body f cdv A outer s H vs Q E hr h⟩
end
end UP

set_option Elab.async false
set_option linter.all false
set_option maxRecDepth 100000
set_option maxHeartbeats 4000000
namespace UP
open PySem PySem.Spec PyProof.Rows L2
section
variable {P : Program} {w : World} {K : PySem.W.Frag} {mg : Str → Option Value} {base : Heap}
/-! checked_runs: slots 0:sequence 1:kind 2:count -/
abbrev s_checked_runs : Stmt := topS 32
theorem sc_checked_runs : FnScope ["sequence", "kind", "count"] ["sequence"] (defScope s_checked_runs) := ⟨rfl, rfl, rfl, by decide +kernel, rfl, by decide +kernel, by decide +kernel⟩
def sp_checked_runs (C : Addr) : Sp := fun vs H Q E => ∃ (v : V) (d : Dat), vs = [v] ∧ Rp H v d ∧ d.fits ∧ (d.seq = true → ∀ H' p, Same H H' → H p = none → Runs H' p d.runs → Q (.ref p) H') ∧ (d.seq = false → ∀ H', Same H H' → E (.ref C) none H')
theorem ok_checked_runs {C : Addr} (D : Df K mg "checked_runs" s_checked_runs) (T : Tx mg) (X1 : Ex K mg "InvalidSequence" C) (G_is_sequence : Has P w K mg base 4 "is_sequence" ["value"] sp_is_sequence) :
    HasX P w K mg base 5 "checked_runs" ["sequence"] (sp_checked_runs C) := by
  refine hasX_of D sc_checked_runs (fun _ _ _ _ _ _ us hl => match us, hl with | [_], _ => rfl) (fun vs H Q E h => ?_) (fun f cdv A outer s H vs Q E hr h => ?_)
  · obtain ⟨v, r, rfl, _⟩ := h
    rfl
  · obtain ⟨v, d, rfl, hv, fit, q, qe⟩ := h
    refine ⟨_, (pss_cons (ps_if (pt_not (pt_val (pe_callH G_is_sequence (hr.mono (by omega)) (by rfl) (pa_cons (pv 0) pa_nil)))) (pss_one (ps_raise rfl (takes_of rfl rfl rfl rfl) (pmk_own PySem.F.excBase_ValueError X1.x X1.g X1.k (raises_own X1.b X1.t) (by exact rfl)))) pss_nil)
    (pss_one (ps_ret (pe_lc (own := [("kind", 1), ("count", 2)]) rfl sc_checked_runs.nd (pi_seqV 0) (blkOk_by (N := ["sequence", "kind", "count"]) (sc := defScope s_checked_runs) (by decide +kernel)) (fun _ _ _ _ _ => (pg_any (n := 2) rfl (pgs_cons (pg_name (i := 1) sc_checked_runs.nd rfl (by first | exact Or.inl rfl | exact Or.inr rfl)) (pgs_cons (pg_name (i := 2) sc_checked_runs.nd rfl (by first | exact Or.inl rfl | exact Or.inr rfl)) pgs_nil)))) (fun _ _ _ _ _ => pts_nil) (fun _ _ _ _ _ => (pe_tup (pa_cons (pv 1) (pa_cons (pv 2) pa_nil)))))))), ?_⟩
    refine ⟨_, rfl, v, d, rfl, hv, fit, fun H1 s1 => ⟨_, rfl, ?_⟩⟩
    by_cases cs : d.seq = true
    · refine iteN (by rw [cs]; rfl) ?_
      have q := q cs
      obtain ⟨hR, ok⟩ := seq_rp hv cs
      generalize d.runs = rs at *
      obtain ⟨a, xs, rfl, hx, hp⟩ := hR
      have lx : xs.length = rs.length := Paired.len hp
      refine ⟨a, xs, rfl, hx.same s1, fun J wk L nL => lc_wk wk (fun i H' => Same H1 H' ∧ ∃ ys, H' L = some (.lst ys) ∧ Paired (RunV H') ys (rs.take i)) (fun _ _ p => p.1) ⟨same_upd nL, [], upd_same, .nil⟩ (fun i x H2 ex p => ?_) (fun H2 p => ?_)⟩
      · obtain ⟨sm, ys, hL, hy⟩ := p
        obtain ⟨r, er, hr1⟩ := Paired.at hp ex
        have hi : i < xs.length := (List.getElem?_eq_some_iff.mp ex).1
        obtain ⟨t, rfl, ht⟩ := RunG.same (s1.trans sm) hr1
        refine ⟨t, _, rfl, ht, rfl, _, _, rfl, _, _, rfl, rfl, rfl, yesT ⟨_, rfl, _, rfl, (by show 2 ≤ sizeLine; decide), fun n nn => ⟨_, same_upd nn _ _ hL, ?_, same_grow nL (sm.trans (same_upd nn)), _, upd_same, ?_⟩⟩⟩
        · have := Paired.len hy
          rw [List.length_take] at this
          exact small (by have := ok.1; omega)
        · rw [take_snoc er]
          refine Paired.app (prs_grow (same_upd nn _ _ hL) (prs_same (same_upd nn) hy)) (.cons ?_ .nil)
          exact RunV.grow (same_upd nn _ _ hL) ⟨n, rfl, upd_same⟩
      · obtain ⟨sm, ys, hL, hy⟩ := p
        rw [lx, List.take_length] at hy
        exact q H2 L (s1.trans sm) (s1.free nL) ⟨ys, hL, hy⟩
    · have cs : d.seq = false := by simpa using cs
      exact iteP (by rw [cs]; rfl) (qe cs _ s1)
end
end UP

set_option Elab.async false
set_option linter.all false
set_option maxRecDepth 100000
set_option maxHeartbeats 4000000
namespace UP
open PySem PySem.Spec PyProof.Rows L2
section
variable {P : Program} {w : World} {K : PySem.W.Frag} {mg : Str → Option Value} {base : Heap}
def lenR (rs : List Run) : Int := (rs.map (·.2)).sum
/-! length_of: slots 0:runs 1:kind 2:count -/
abbrev s_length_of : Stmt := topS 34
theorem sc_length_of : FnScope ["runs", "kind", "count"] ["runs"] (defScope s_length_of) := ⟨rfl, rfl, rfl, by decide +kernel, rfl, by decide +kernel, by decide +kernel⟩
def sp_length_of : Sp := fun vs H Q _ => ∃ (a : Addr) (rs : List Run), vs = [.ref a] ∧ Runs H a rs ∧ rs.length ≤ 1000 ∧ ∀ H', Same H H' → Q (.int (lenR rs)) H'
theorem ok_length_of (D : Df K mg "length_of" s_length_of) (T : Tx mg) : Has P w K mg base 1 "length_of" ["runs"] sp_length_of := by
  refine has_of D sc_length_of (fun _ _ _ _ _ _ us hl => match us, hl with | [_], _ => rfl) (fun vs H Q E h => ?_) (fun f cdv A outer s H vs Q E hr h => ?_)
  · obtain ⟨v, r, rfl, _⟩ := h
    rfl
  · obtain ⟨a, rs, rfl, ⟨xs, hx, hp⟩, l4, q⟩ := h
    have lx : xs.length = rs.length := Paired.len hp
    refine ⟨_, (pss_one (ps_ret (pe_callB (cr_sum rfl) (by rfl) T.n_sum (by decide +kernel) (pa_cons (pe_lc (own := [("kind", 1), ("count", 2)]) rfl sc_length_of.nd (pi_list (pv 0)) (blkOk_by (N := ["runs", "kind", "count"]) (sc := defScope s_length_of) (by decide +kernel)) (fun _ _ _ _ _ => (pg_tupK (K := K) (n := 2) rfl rfl (pgs_cons (pg_name (i := 1) sc_length_of.nd rfl (by first | exact Or.inl rfl | exact Or.inr rfl)) (pgs_cons (pg_name (i := 2) sc_length_of.nd rfl (by first | exact Or.inl rfl | exact Or.inr rfl)) pgs_nil)))) (fun _ _ _ _ _ => pts_nil) (fun _ _ _ _ _ => (pv 2))) pa_nil)))), ?_⟩
    refine ⟨_, rfl, a, rfl, ⟨xs, .of hx⟩, fun L nL => lc_list (K := K) (a := a) (xs := xs) (fun i H' => Same H H' ∧ H' L = some (.lst (((rs.map (·.2)).take i).map V.int))) ⟨same_upd nL, upd_same⟩ (fun i H' _ p => .of (p.1 _ _ hx)) (fun i x H2 ex p => ?_) (fun H2 p => ?_)⟩
    · obtain ⟨sm, hL⟩ := p
      obtain ⟨r, er, hr1⟩ := Paired.at hp ex
      have hi : i < xs.length := (List.getElem?_eq_some_iff.mp ex).1
      obtain ⟨t, rfl, ht⟩ := RunV.same sm hr1
      refine ⟨t, _, rfl, .of ht, rfl, _, _, rfl, _, _, rfl, rfl, rfl, yesT ⟨_, rfl, _, hL, ?_, same_grow nL sm, ?_⟩⟩
      · simp only [List.length_map, List.length_take]
        exact small (by omega)
      · rw [upd_same, take_snoc (x := r.2) (by rw [List.getElem?_map, er]; rfl), List.map_append]
        rfl
    · refine ⟨L, (rs.map (fun r : Run => r.2)), rfl, .of ?_, q H2 p.1⟩
      have := p.2
      rw [List.take_of_length_le (by rw [List.length_map]; omega)] at this
      exact this
end
end UP

set_option Elab.async false
set_option linter.all false
set_option maxRecDepth 100000
set_option maxHeartbeats 4000000
namespace UP
open PySem PySem.Spec PyProof.Rows L2
/-! ### the mirror of cut -/
theorem lenR_nil : lenR [] = 0 := rfl
theorem lenR_cons (r : Run) (l : List Run) : lenR (r :: l) = r.2 + lenR l := by
  unfold lenR
  rw [List.map_cons, List.sum_cons]
theorem lenR_app (l m : List Run) : lenR (l ++ m) = lenR l + lenR m := by
  induction l with
  | nil => rw [List.nil_append, lenR_nil]; omega
  | cons r t ih => rw [List.cons_append, lenR_cons, lenR_cons, ih]; omega
theorem lenR_snoc (l : List Run) (r : Run) : lenR (l ++ [r]) = lenR l + r.2 := by
  rw [lenR_app, lenR_cons, lenR_nil]
  omega
def sizeR (b s e c : Int) : Int := (if b + c < e then b + c else e) - (if b > s then b else s)
def pieceR (b s e : Int) (r : Run) : List Run := if 0 < sizeR b s e r.2 then [(r.1, sizeR b s e r.2)] else []
def cutR (s e : Int) : Int → List Run → List Run
  | _, [] => []
  | b, r :: t => pieceR b s e r ++ cutR s e (b + r.2) t
theorem cutR_snoc (s e : Int) : ∀ (l : List Run) (b : Int) (r : Run), cutR s e b (l ++ [r]) = cutR s e b l ++ pieceR (b + lenR l) s e r
  | [], b, r => by
    show pieceR b s e r ++ [] = [] ++ pieceR (b + lenR []) s e r
    rw [lenR_nil, Int.add_zero, List.append_nil, List.nil_append]
  | x :: t, b, r => by
    show pieceR b s e x ++ cutR s e (b + x.2) (t ++ [r]) = (pieceR b s e x ++ cutR s e (b + x.2) t) ++ pieceR (b + lenR (x :: t)) s e r
    rw [cutR_snoc s e t, lenR_cons, List.append_assoc, Int.add_assoc]
theorem pieceR_len (b s e : Int) (r : Run) : (pieceR b s e r).length ≤ 1 := by
  unfold pieceR
  split <;> simp
theorem cutR_len (s e : Int) : ∀ (l : List Run) (b : Int), (cutR s e b l).length ≤ l.length
  | [], _ => Nat.le_refl _
  | r :: t, b => by
    show (pieceR b s e r ++ cutR s e (b + r.2) t).length ≤ (r :: t).length
    have h1 := pieceR_len b s e r
    have h2 := cutR_len s e t (b + r.2)
    rw [List.length_append, List.length_cons]
    omega
section
variable {P : Program} {w : World} {K : PySem.W.Frag} {mg : Str → Option Value} {base : Heap}
/-! cut: slots 0:runs 1:start 2:length 3:end 4:part 5:before 6:kind 7:count 8:after 9:size -/
abbrev s_cut : Stmt := topS 35
theorem sc_cut : FnScope ["runs", "start", "length", "end", "part", "before", "kind", "count", "after", "size"] ["runs", "start", "length"] (defScope s_cut) := ⟨rfl, rfl, rfl, by decide +kernel, rfl, by decide +kernel, by decide +kernel⟩
def sp_cut : Sp := fun vs H Q _ => ∃ (a : Addr) (rs : List Run) (s l : Int), vs = [.ref a, .int s, .int l] ∧ Runs H a rs ∧ rs.length ≤ 1000 ∧ ∀ H' p, Same H H' → H p = none → Runs H' p (cutR s (s + l) 0 rs) → Q (.ref p) H'
theorem ok_cut (D : Df K mg "cut" s_cut) (T : Tx mg) : Has P w K mg base 1 "cut" ["runs", "start", "length"] sp_cut := by
  refine has_of D sc_cut (fun _ _ _ _ _ _ us hl => match us, hl with | [_, _, _], _ => rfl) (fun vs H Q E h => ?_) (fun f cdv A outer s₀ H vs Q E hr h => ?_)
  · obtain ⟨a, rs, s, l, rfl, _⟩ := h
    rfl
  · obtain ⟨a, rs, s, l, rfl, ⟨xs, hx, hp⟩, l4, q⟩ := h
    have lx : xs.length = rs.length := Paired.len hp
    refine ⟨_, (pss_cons (ps_set (i := 3) sc_cut.nd rfl (by first | exact Or.inl rfl | exact Or.inr rfl) (pe_op op_add (pv 1) (pv 2)))
    (pss_cons (ps_set (i := 4) sc_cut.nd rfl (by first | exact Or.inl rfl | exact Or.inr rfl) (pe_lst pa_nil))
    (pss_cons (ps_set (i := 5) sc_cut.nd rfl (by first | exact Or.inl rfl | exact Or.inr rfl) pe_int)
    (pss_cons (ps_for PassesOwn.never rfl (pi_list (pv 0)) (pg_tup rfl (pgs_cons (pg_name (i := 6) sc_cut.nd rfl (by first | exact Or.inl rfl | exact Or.inr rfl)) (pgs_cons (pg_name (i := 7) sc_cut.nd rfl (by first | exact Or.inl rfl | exact Or.inr rfl)) pgs_nil)))
      (pss_cons (ps_set (i := 8) sc_cut.nd rfl (by first | exact Or.inl rfl | exact Or.inr rfl) (pe_op op_add (pv 5) (pv 7)))
    (pss_cons (ps_set (i := 9) sc_cut.nd rfl (by first | exact Or.inl rfl | exact Or.inr rfl) (pe_op op_sub (pe_callB (call_min2 rfl) (by rfl) T.n_min (by decide +kernel) (pa_cons (pv 3) (pa_cons (pv 8) pa_nil))) (pe_callB (call_max2 rfl) (by rfl) T.n_max (by decide +kernel) (pa_cons (pv 1) (pa_cons (pv 5) pa_nil)))))
    (pss_cons (ps_if (pt_cmpR op_gt (pv 9) pe_int (nomark _)) (pss_one (ps_expr (pe_bm PySem.F.plainAttrs_list PySem.F.slot_list_append PySem.F.type_list_append mt_append (pv 4) (pa_cons (pe_tup (pa_cons (pv 6) (pa_cons (pv 9) pa_nil))) pa_nil)))) pss_nil)
    (pss_one (ps_set (i := 5) sc_cut.nd rfl (by first | exact Or.inl rfl | exact Or.inr rfl) (pv 8)))))))
    (pss_one (ps_ret (pv 4))))))), ?_⟩
    refine ⟨_, rfl, _, rfl, _, _, rfl, rfl, Nat.zero_le _, fun p np => ?_⟩
    refine ⟨_, rfl, a, rfl, ⟨xs, .of (same_upd np _ _ hx)⟩, for_list (K := K) (a := a) (xs := xs) (fun i σ H' => ∃ b y6 y7 y8 y9, b = lenR (rs.take i) ∧ σ = [some (.ref a), some (.int s), some (.int l), some (.int (s + l)), some (.ref p), some (.int b), y6, y7, y8, y9] ∧ Same H H' ∧ ∃ ys, H' p = some (.lst ys) ∧ Paired (RunV H') ys (cutR s (s + l) 0 (rs.take i)))
      ⟨0, none, none, none, none, rfl, rfl, same_upd np, [], upd_same, .nil⟩ (fun i σ H' _ hP => ?_) (fun i x σ H1 ex hP => ?_) (fun σ H1 hP => ?_)⟩
    · obtain ⟨_, _, _, _, _, _, _, sm, _⟩ := hP
      exact .of (sm _ _ hx)
    · obtain ⟨b, y6, y7, y8, y9, rfl, rfl, sm, ys, hL, hy⟩ := hP
      obtain ⟨r, er, hr1⟩ := Paired.at hp ex
      have hi : i < xs.length := (List.getElem?_eq_some_iff.mp ex).1
      obtain ⟨t, rfl, ht⟩ := RunV.same sm hr1
      have el : lenR (rs.take (i + 1)) = lenR (rs.take i) + r.2 := by rw [take_snoc er, lenR_snoc]
      have ec : cutR s (s + l) 0 (rs.take (i + 1)) = cutR s (s + l) 0 (rs.take i) ++ pieceR (lenR (rs.take i)) s (s + l) r := by
        rw [take_snoc er, cutR_snoc, Int.zero_add]
      refine ⟨t, _, rfl, .of ht, rfl, _, _, rfl, _, _, rfl, rfl, ?_⟩
      refine ⟨_, rfl, _, rfl, _, _, rfl, rfl, ?_⟩
      refine ⟨_, rfl, _, rfl, _, _, rfl, _, rfl, _, rfl, _, _, rfl, _, _, rfl, rfl, ?_⟩
      refine ⟨_, rfl, _, _, rfl, rfl, _, rfl, ite2 (fun e => ?_) (fun e => ?_)⟩
      · have e : 0 < sizeR (lenR (rs.take i)) s (s + l) r.2 := of_decide_eq_true e
        have epc : pieceR (lenR (rs.take i)) s (s + l) r = [(r.1, sizeR (lenR (rs.take i)) s (s + l) r.2)] := if_pos e
        refine ⟨_, rfl, .inl ⟨rfl, _, SqL.of hL⟩, _, rfl, _, rfl, (by show 2 ≤ sizeLine; decide), fun n nn => ⟨p, _, _, rfl, rfl, same_upd nn _ _ hL, ?_, ?_⟩⟩
        · have h1 := Paired.len hy
          have h2 := cutR_len s (s + l) (rs.take i) 0
          rw [List.length_take] at h2
          exact small (by omega)
        · refine ⟨_, rfl, _, _, _, _, _, el.symm, rfl, same_grow np (sm.trans (same_upd nn)), _, upd_same, ?_⟩
          · rw [ec, epc]
            exact Paired.app (prs_grow (same_upd nn _ _ hL) (prs_same (same_upd nn) hy)) (.cons (RunV.grow (same_upd nn _ _ hL) ⟨n, rfl, upd_same⟩) .nil)
      · have e : ¬ 0 < sizeR (lenR (rs.take i)) s (s + l) r.2 := fun z => e (decide_eq_true z)
        have epc : pieceR (lenR (rs.take i)) s (s + l) r = [] := if_neg e
        refine ⟨_, rfl, _, _, _, _, _, el.symm, rfl, sm, _, hL, ?_⟩
        · rw [ec, epc, List.append_nil]
          exact hy
    · obtain ⟨b, y6, y7, y8, y9, rfl, rfl, sm, ys, hL, hy⟩ := hP
      rw [lx, List.take_length] at hy
      exact ⟨_, rfl, q H1 p sm np ⟨ys, hL, hy⟩⟩
end
end UP

set_option Elab.async false
set_option linter.all false
set_option maxRecDepth 100000
set_option maxHeartbeats 4000000
namespace UP
open PySem PySem.Spec PyProof.Rows L2
/-! ### the mirror of the states -/
def numR : Option Run → Int
  | none => 0
  | some r => r.2
def leavR : Option Run → Str → Int → Int
  | none, _, _ => 0
  | some r, k, c => if r.1 = k then 0 else if c < r.2 then c else r.2
def stepR : Option Run → Str → Int → Option Run
  | some r, k, c => if r.1 = k then some (k, r.2 + c) else if 0 < r.2 - c then some (r.1, r.2 - c) else if r.2 - c = 0 then none else some (k, -(r.2 - c))
  | none, k, c => some (k, c)
def withR (k : Str) (n : Int) : Option Run := if n = 0 then none else some (k, n)
def stR (rs : List Run) (st : Option Run) : Option Run := rs.foldl (fun s r => stepR s r.1 r.2) st
theorem stR_snoc (l : List Run) (r : Run) (st : Option Run) : stR (l ++ [r]) st = stepR (stR l st) r.1 r.2 := by
  unfold stR
  rw [List.foldl_append]
  rfl
section
variable {P : Program} {w : World} {K : PySem.W.Frag} {mg : Str → Option Value} {base : Heap}
/-! waiting_number: slots 0:state -/
abbrev s_waiting_number : Stmt := topS 37
theorem sc_waiting_number : FnScope ["state"] ["state"] (defScope s_waiting_number) := ⟨rfl, rfl, rfl, by decide +kernel, rfl, by decide +kernel, by decide +kernel⟩
def sp_waiting_number : Sp := fun vs H Q _ => ∃ (v : V) (st : Option Run), vs = [v] ∧ StV H v st ∧ Q (.int (numR st)) H
theorem ok_waiting_number (D : Df K mg "waiting_number" s_waiting_number) : Has P w K mg base 1 "waiting_number" ["state"] sp_waiting_number := by
  refine has_of D sc_waiting_number (fun _ _ _ _ _ _ us hl => match us, hl with | [_], _ => rfl) (fun vs H Q E h => ?_) (fun f cdv A outer s₀ H vs Q E hr h => ?_)
  · obtain ⟨a, rs, rfl, _⟩ := h
    rfl
  · obtain ⟨v, st, rfl, hv, q⟩ := h
    refine ⟨_, (pss_one (ps_ret (pe_ifExp (pt_cmpR op_isN (pv 0) pe_non (nomark _)) pe_int (pe_ix ix_tup (pv 0) pe_int (fun _ _ => rfl))))), ?_⟩
    cases st with
    | none =>
      cases hv
      exact ⟨_, rfl, rfl, _, rfl, iteP rfl q⟩
    | some r =>
      obtain ⟨t, rfl, ht⟩ := hv
      exact ⟨_, rfl, rfl, _, rfl, iteN rfl ⟨_, rfl, t, _, 1, _, rfl, rfl, .of ht, at1, q⟩⟩
/-! leaving_number: slots 0:state 1:kind 2:count -/
abbrev s_leaving_number : Stmt := topS 39
theorem sc_leaving_number : FnScope ["state", "kind", "count"] ["state", "kind", "count"] (defScope s_leaving_number) := ⟨rfl, rfl, rfl, by decide +kernel, rfl, by decide +kernel, by decide +kernel⟩
def sp_leaving_number : Sp := fun vs H Q _ => ∃ (v : V) (st : Option Run) (k : Str) (c : Int), vs = [v, .str k, .int c] ∧ StV H v st ∧ Q (.int (leavR st k c)) H
theorem ok_leaving_number (D : Df K mg "leaving_number" s_leaving_number) (T : Tx mg) : Has P w K mg base 1 "leaving_number" ["state", "kind", "count"] sp_leaving_number := by
  refine has_of D sc_leaving_number (fun _ _ _ _ _ _ us hl => match us, hl with | [_, _, _], _ => rfl) (fun vs H Q E h => ?_) (fun f cdv A outer s₀ H vs Q E hr h => ?_)
  · obtain ⟨a, rs, _, _, rfl, _⟩ := h
    rfl
  · obtain ⟨v, st, k, c, rfl, hv, q⟩ := h
    refine ⟨_, (pss_cons (ps_if (PW.pt (pw_or (pt_cmpR op_isN (pv 0) pe_non (nomark _)) (pw_or1 (pt_cmpR op_eq (pe_ix ix_tup (pv 0) pe_int (fun _ _ => rfl)) (pv 1) (nomark _))))) (pss_one (ps_ret pe_int)) pss_nil)
    (pss_one (ps_ret (pe_callB (call_min2 rfl) (by rfl) T.n_min (by decide +kernel) (pa_cons (pe_ix ix_tup (pv 0) pe_int (fun _ _ => rfl)) (pa_cons (pv 2) pa_nil)))))), ?_⟩
    cases st with
    | none =>
      cases hv
      exact ⟨_, rfl, rfl, _, rfl, iteP rfl (iteT q)⟩
    | some r =>
      obtain ⟨t, rfl, ht⟩ := hv
      refine ⟨_, rfl, rfl, _, rfl, iteN rfl ⟨_, rfl, t, _, 0, _, rfl, rfl, .of ht, at0, _, rfl, rfl, _, rfl, ?_⟩⟩
      by_cases e : r.1 = k
      · refine iteP (by rw [e]; exact decide_eq_true rfl) ?_
        rw [show leavR (some r) k c = 0 from if_pos e] at q
        exact q
      · refine iteN (decide_eq_false fun z => e (V.str.inj z)) ⟨_, rfl, t, _, 1, _, rfl, rfl, .of ht, at1, _, rfl, _, _, rfl, ?_⟩
        rw [show leavR (some r) k c = if c < r.2 then c else r.2 from if_neg e] at q
        exact q
/-! state_with: slots 0:kind 1:number -/
abbrev s_state_with : Stmt := topS 38
theorem sc_state_with : FnScope ["kind", "number"] ["kind", "number"] (defScope s_state_with) := ⟨rfl, rfl, rfl, by decide +kernel, rfl, by decide +kernel, by decide +kernel⟩
def sp_state_with : Sp := fun vs H Q _ => ∃ (k : Str) (n : Int), vs = [.str k, .int n] ∧ ∀ H' v', Same H H' → StV H' v' (withR k n) → Q v' H'
theorem ok_state_with (D : Df K mg "state_with" s_state_with) : Has P w K mg base 1 "state_with" ["kind", "number"] sp_state_with := by
  refine has_of D sc_state_with (fun _ _ _ _ _ _ us hl => match us, hl with | [_, _], _ => rfl) (fun vs H Q E h => ?_) (fun f cdv A outer s₀ H vs Q E hr h => ?_)
  · obtain ⟨k, n, rfl, _⟩ := h
    rfl
  · obtain ⟨k, n, rfl, q⟩ := h
    refine ⟨_, (pss_one (ps_ret (pe_ifExp (pt_cmpR op_eq (pv 1) pe_int (nomark _)) pe_non (pe_tup (pa_cons (pv 0) (pa_cons (pv 1) pa_nil)))))), ?_⟩
    refine ⟨_, rfl, rfl, _, rfl, ?_⟩
    by_cases e : n = 0
    · rw [show withR k n = none from if_pos e] at q
      exact iteP (decide_eq_true (by rw [e])) (q _ _ (Same.refl _) rfl)
    · rw [show withR k n = some (k, n) from if_neg e] at q
      refine iteN (decide_eq_false fun z => e (V.int.inj z)) ?_
      exact ⟨_, rfl, _, rfl, (by show 2 ≤ sizeLine; decide), fun n' nn => q _ _ (same_upd nn) ⟨n', rfl, upd_same⟩⟩
/-! state_after_run: slots 0:state 1:kind 2:count 3:left_over -/
abbrev s_state_after_run : Stmt := topS 40
theorem sc_state_after_run : FnScope ["state", "kind", "count", "left_over"] ["state", "kind", "count"] (defScope s_state_after_run) := ⟨rfl, rfl, rfl, by decide +kernel, rfl, by decide +kernel, by decide +kernel⟩
def sp_state_after_run : Sp := fun vs H Q _ => ∃ (v : V) (st : Option Run) (k : Str) (c : Int), vs = [v, .str k, .int c] ∧ StV H v st ∧ 1 ≤ c ∧ ∀ H' v', Same H H' → StV H' v' (stepR st k c) → Q v' H'
theorem ok_state_after_run (D : Df K mg "state_after_run" s_state_after_run) (G_waiting_number : Has P w K mg base 1 "waiting_number" ["state"] sp_waiting_number) (G_state_with : Has P w K mg base 1 "state_with" ["kind", "number"] sp_state_with) : Has P w K mg base 2 "state_after_run" ["state", "kind", "count"] sp_state_after_run := by
  refine has_of D sc_state_after_run (fun _ _ _ _ _ _ us hl => match us, hl with | [_, _, _], _ => rfl) (fun vs H Q E h => ?_) (fun f cdv A outer s₀ H vs Q E hr h => ?_)
  · obtain ⟨a, rs, _, _, rfl, _⟩ := h
    rfl
  · obtain ⟨v, st, k, c, rfl, hv, hc, q⟩ := h
    refine ⟨_, (pss_cons (ps_if (PW.pt (pw_and (pt_cmpR op_notN (pv 0) pe_non (nomark _)) (pw_and1 (pt_cmpR op_eq (pe_ix ix_tup (pv 0) pe_int (fun _ _ => rfl)) (pv 1) (nomark _))))) (pss_one (ps_ret (pe_tup (pa_cons (pv 1) (pa_cons (pe_op op_add (pe_ix ix_tup (pv 0) pe_int (fun _ _ => rfl)) (pv 2)) pa_nil))))) pss_nil)
    (pss_cons (ps_set (i := 3) sc_state_after_run.nd rfl (by first | exact Or.inl rfl | exact Or.inr rfl) (pe_op op_sub (pe_callH G_waiting_number (hr.mono (by omega)) (by rfl) (pa_cons (pv 0) pa_nil)) (pv 2)))
    (pss_cons (ps_if (pt_cmpR op_gt (pv 3) pe_int (nomark _)) (pss_one (ps_ret (pe_tup (pa_cons (pe_ix ix_tup (pv 0) pe_int (fun _ _ => rfl)) (pa_cons (pv 3) pa_nil))))) pss_nil)
    (pss_one (ps_ret (pe_callH G_state_with (hr.mono (by omega)) (by rfl) (pa_cons (pv 1) (pa_cons (pe_un un_neg (pv 3)) pa_nil)))))))), ?_⟩
    cases st with
    | none =>
      cases hv
      refine ⟨_, rfl, rfl, _, rfl, iteN rfl (iteF ?_)⟩
      refine ⟨_, rfl, _, none, rfl, rfl, _, rfl, _, _, rfl, rfl, ?_⟩
      refine ⟨_, rfl, _, _, rfl, rfl, _, rfl, iteN (decide_eq_false (by show ¬ (0 : Int) < 0 - c; omega)) ?_⟩
      refine ⟨_, rfl, _, rfl, _, rfl, k, -(0 - c), rfl, fun H' v' s h => q H' v' s ?_⟩
      have e : withR k (-(0 - c)) = some (k, c) := by
        unfold withR
        rw [if_neg (by omega), show -(0 - c) = c by omega]
      rw [e] at h
      exact h
    | some r =>
      obtain ⟨t, rfl, ht⟩ := hv
      refine ⟨_, rfl, rfl, _, rfl, iteP rfl ⟨_, rfl, t, _, 0, _, rfl, rfl, .of ht, at0, _, rfl, rfl, _, rfl, ?_⟩⟩
      by_cases e : r.1 = k
      · have es : stepR (some r) k c = some (k, r.2 + c) := if_pos e
        rw [es] at q
        refine iteP (by rw [e]; exact decide_eq_true rfl) ?_
        exact ⟨_, rfl, _, rfl, t, _, 1, _, rfl, rfl, .of ht, at1, _, rfl, _, _, rfl, rfl, (by show 2 ≤ sizeLine; decide), fun n nn => q _ _ (same_upd nn) ⟨n, rfl, upd_same⟩⟩
      · refine iteN (decide_eq_false fun z => e (V.str.inj z)) ?_
        have es : stepR (some r) k c = if 0 < r.2 - c then some (r.1, r.2 - c) else if r.2 - c = 0 then none else some (k, -(r.2 - c)) := if_neg e
        rw [es] at q
        refine ⟨_, rfl, _, some r, rfl, ⟨t, rfl, ht⟩, _, rfl, _, _, rfl, rfl, ?_⟩
        refine ⟨_, rfl, _, _, rfl, rfl, _, rfl, ?_⟩
        by_cases e1 : 0 < r.2 - c
        · rw [if_pos e1] at q
          refine iteP (decide_eq_true e1) ?_
          exact ⟨_, rfl, t, _, 0, _, rfl, rfl, .of ht, at0, _, rfl, (by show 2 ≤ sizeLine; decide), fun n nn => q _ _ (same_upd nn) ⟨n, rfl, upd_same⟩⟩
        · rw [if_neg e1] at q
          refine iteN (decide_eq_false e1) ⟨_, rfl, _, rfl, _, rfl, k, -(r.2 - c), rfl, fun H' v' s h => q H' v' s ?_⟩
          have e3 : withR k (-(r.2 - c)) = if r.2 - c = 0 then none else some (k, -(r.2 - c)) := by
            unfold withR
            by_cases e2 : r.2 - c = 0
            · rw [if_pos e2, if_pos (by omega)]
            · rw [if_neg e2, if_neg (by omega)]
          rw [e3] at h
          exact h
/-! state_after_runs: slots 0:runs 1:state 2:kind 3:count -/
abbrev s_state_after_runs : Stmt := topS 41
theorem sc_state_after_runs : FnScope ["runs", "state", "kind", "count"] ["runs", "state"] (defScope s_state_after_runs) := ⟨rfl, rfl, rfl, by decide +kernel, rfl, by decide +kernel, by decide +kernel⟩
def sp_state_after_runs : Sp := fun vs H Q _ => ∃ (a : Addr) (rs : List Run) (v : V) (st : Option Run), vs = [.ref a, v] ∧ Runs H a rs ∧ (∀ r ∈ rs, 1 ≤ r.2) ∧ StV H v st ∧ ∀ H' v', Same H H' → StV H' v' (stR rs st) → Q v' H'
theorem ok_state_after_runs (D : Df K mg "state_after_runs" s_state_after_runs) (G_state_after_run : Has P w K mg base 2 "state_after_run" ["state", "kind", "count"] sp_state_after_run) : Has P w K mg base 3 "state_after_runs" ["runs", "state"] sp_state_after_runs := by
  refine has_of D sc_state_after_runs (fun _ _ _ _ _ _ us hl => match us, hl with | [_, _], _ => rfl) (fun vs H Q E h => ?_) (fun f cdv A outer s₀ H vs Q E hr h => ?_)
  · obtain ⟨a, rs, _, _, rfl, _⟩ := h
    rfl
  · obtain ⟨a, rs, v, st, rfl, ⟨xs, hx, hp⟩, pos, hv, q⟩ := h
    have lx : xs.length = rs.length := Paired.len hp
    refine ⟨_, (pss_cons (ps_for PassesOwn.never rfl (pi_list (pv 0)) (pg_tup rfl (pgs_cons (pg_name (i := 2) sc_state_after_runs.nd rfl (by first | exact Or.inl rfl | exact Or.inr rfl)) (pgs_cons (pg_name (i := 3) sc_state_after_runs.nd rfl (by first | exact Or.inl rfl | exact Or.inr rfl)) pgs_nil)))
      (pss_one (ps_set (i := 1) sc_state_after_runs.nd rfl (by first | exact Or.inl rfl | exact Or.inr rfl) (pe_callH G_state_after_run (hr.mono (by omega)) (by rfl) (pa_cons (pv 1) (pa_cons (pv 2) (pa_cons (pv 3) pa_nil)))))))
    (pss_one (ps_ret (pv 1)))), ?_⟩
    refine ⟨_, rfl, a, rfl, ⟨xs, .of hx⟩, for_list (K := K) (a := a) (xs := xs) (fun i σ H' => ∃ v' y2 y3, σ = [some (.ref a), some v', y2, y3] ∧ Same H H' ∧ StV H' v' (stR (rs.take i) st))
      ⟨v, none, none, rfl, Same.refl H, hv⟩ (fun i σ H' _ hP => ?_) (fun i x σ H1 ex hP => ?_) (fun σ H1 hP => ?_)⟩
    · obtain ⟨_, _, _, _, sm, _⟩ := hP
      exact .of (sm _ _ hx)
    · obtain ⟨v', y2, y3, rfl, sm, hv'⟩ := hP
      obtain ⟨r, er, hr1⟩ := Paired.at hp ex
      obtain ⟨t, rfl, ht⟩ := RunV.same sm hr1
      refine ⟨t, _, rfl, .of ht, rfl, _, _, rfl, _, _, rfl, rfl, ?_⟩
      refine ⟨_, rfl, _, rfl, _, rfl, v', _, r.1, r.2, rfl, hv', pos r (List.mem_of_getElem? er), fun H2 v2 s2 h2 => ⟨v2, _, _, rfl, sm.trans s2, ?_⟩⟩
      rw [take_snoc er, stR_snoc]
      exact h2
    · obtain ⟨v', y2, y3, rfl, sm, hv'⟩ := hP
      rw [lx, List.take_length] at hv'
      exact ⟨_, rfl, q H1 v' sm hv'⟩
end
end UP

set_option Elab.async false
set_option linter.all false
set_option maxRecDepth 100000
set_option maxHeartbeats 4000000
namespace UP
open PySem PySem.Spec PyProof.Rows L2
section
variable {X : Cx}
/-- a call that may raise, in a def that may -/
theorem pe_callXH {k : Nat} {x : Str} {ps : List Str} {sp : Sp} {W : WX} {p pos : Pos} {e : Expr} {es : List Expr} {t : TA} (G : HasX X.prog X.w X.K X.mg X.base k x ps sp) (tk : Takes X W) (hr : Room k X.A) (hg : Gl X x) (ha : PA X (e :: es) t)
    (hdb : (x == ("__debug__" : Str)) = false := by decide) (he : starEach (e :: es) X.env = (false, eval e X.env) :: starEach es X.env := by rfl) (hpl : (backTo pos (starEach es X.env)).any (·.1) = false := by rfl) :
    PE X (.Call (.Name x p) (e :: es) [] pos) (tCallS sp (WE W) t) := by
  obtain ⟨f, fd, g, kp, b, F⟩ := G
  exact pe_callS F hr hg g kp b (fun σ => passAt tk σ) ha hdb he hpl
end
section
variable {P : Program} {w : World} {K : PySem.W.Frag} {mg : Str → Option Value} {base : Heap}
/-! check_moment: slots 0:runs 1:moment -/
abbrev s_check_moment : Stmt := topS 42
theorem sc_check_moment : FnScope ["runs", "moment"] ["runs", "moment"] (defScope s_check_moment) := ⟨rfl, rfl, rfl, by decide +kernel, rfl, by decide +kernel, by decide +kernel⟩
def sp_check_moment (C : Addr) : Sp := fun vs H Q E => ∃ (a : Addr) (rs : List Run) (v : V) (d : Dat), vs = [.ref a, v] ∧ Runs H a rs ∧ rs.length ≤ 1000 ∧ Rp H v d ∧ (d.inI 0 (lenR rs) = true → ∀ H', Same H H' → Q .non H') ∧ (d.inI 0 (lenR rs) = false → ∀ H', Same H H' → E (.ref C) none H')
theorem ok_check_moment {C : Addr} (D : Df K mg "check_moment" s_check_moment) (X1 : Ex K mg "InvalidPosition" C) (G_is_within : Has P w K mg base 2 "is_within" ["value", "low", "high"] sp_is_within) (G_length_of : Has P w K mg base 1 "length_of" ["runs"] sp_length_of) : HasX P w K mg base 3 "check_moment" ["runs", "moment"] (sp_check_moment C) := by
  refine hasX_of D sc_check_moment (fun _ _ _ _ _ _ us hl => match us, hl with | [_, _], _ => rfl) (fun vs H Q E h => ?_) (fun f cdv A outer s₀ H vs Q E hr h => ?_)
  · obtain ⟨a, rs, _, _, rfl, _⟩ := h
    rfl
  · obtain ⟨a, rs, v, d, rfl, hR, l4, hv, q, qe⟩ := h
    refine ⟨_, (pss_one (ps_if (pt_not (pt_val (pe_callH G_is_within (hr.mono (by omega)) (by rfl) (pa_cons (pv 1) (pa_cons pe_int (pa_cons (pe_callH G_length_of (hr.mono (by omega)) (by rfl) (pa_cons (pv 0) pa_nil)) pa_nil)))))) (pss_one (ps_raise rfl (takes_of rfl rfl rfl rfl) (pmk_own PySem.F.excBase_ValueError X1.x X1.g X1.k (raises_own X1.b X1.t) (by exact rfl)))) pss_nil)), ?_⟩
    refine ⟨_, rfl, _, rfl, a, rs, rfl, hR, l4, fun H2 s2 => ⟨v, d, 0, _, rfl, hv.same s2, _, rfl, ?_⟩⟩
    by_cases c : d.inI 0 (lenR rs) = true
    · exact iteN (by rw [c]; rfl) (q c _ s2)
    · have c : d.inI 0 (lenR rs) = false := by simpa using c
      exact iteP (by rw [c]; rfl) (qe c _ s2)
end
end UP

set_option Elab.async false
set_option linter.all false
set_option maxRecDepth 100000
set_option maxHeartbeats 4000000
namespace UP
open PySem PySem.Spec PyProof.Rows L2
def DfD (K : PySem.W.Frag) (mg : Str → Option Value) (x : Str) (st : Stmt) (dvs : List V) : Prop := ∃ f fd, mg x = some (.ref f) ∧ FunD K x x (defArgs st) (defBody st) (defScope st) dvs [] f fd
section
variable {P : Program} {w : World} {K : PySem.W.Frag} {mg : Str → Option Value} {base : Heap}
theorem hasX_ofD {x : Str} {st : Stmt} {ps N : List Str} {k n : Nat} {sp : Sp} (D : DfD K mg x st [.non]) (S : FnScope N ps (defScope st)) (hpn : ps.length = n + 1)
    (hb : ∀ (T : Addr) (kV doc pm : Value) (an : Option Addr) (cdv ct : Value) (us its : List Value), us.length = n + 1 → its.length = 1 →
      ∃ k, bindArgs (PySem.W.fnOf x x (defArgs st) (defBody st) (defScope st) (.ref T) kV doc pm an cdv ct) ⟨us, []⟩ = seqItems? (.ref T) >>= k ∧ k (some its.toArray) = pure (ps.zip us))
    (len : ∀ vs H Q E, sp vs H Q E → vs.length = ps.length)
    (body : ∀ (f : Addr) (cdv : Value) (A : Around) (outer : List Env) (s : Shared) (H : Hp) (vs : List V) (Q : VK) (E : XK), Room k (A.deeper (envOfC x (defScope st) s.heap.objs.size f cdv)) → sp vs H Q E →
      ∃ t, PSs (cxOf (L2.CX P w) P w K mg base N x (defScope st) f cdv A outer s H E) (defBody st) t ∧ t { nx := fun _ H' => Q .non H', rt := Q } (start N vs) H) :
    HasX P w K mg base (k + 1) x ps sp := by
  obtain ⟨f, fd, g, F⟩ := D
  have B0 : Binds K fd ps [] := by
    obtain ⟨ds, v, b⟩ := F.binds1 (n + 1) 1 (ps := ps) (by intro z; cases z) (by rw [hpn]; rfl) fun T kV doc pm an cdv ct us its h1 h2 => by
      obtain ⟨k, e1, e2⟩ := hb T kV doc pm an cdv ct us its h1 h2
      refine ⟨k, e1, ?_⟩
      have h3 : its.length ≤ 1 := Nat.le_of_eq h2
      rw [e2, List.drop_of_length_le h3, List.append_nil]
    cases v
    exact b
  exact ⟨f, fd, g, F.kp, B0, F.ok S len fun cdv A outer s H vs Q E hr h => body f cdv A outer s H vs Q E hr h⟩
theorem SeqOk.pos {rs : List Run} (h : SeqOk rs) : ∀ r ∈ rs, 1 ≤ r.2 := fun r m => (h.2.1 r m).2.1
theorem pieceR_pos {b s e : Int} {r x : Run} (h : x ∈ pieceR b s e r) : 1 ≤ x.2 := by
  unfold pieceR at h
  split at h
  · rename_i z
    simp only [List.mem_singleton] at h
    subst h
    show 1 ≤ sizeR b s e r.2
    omega
  · cases h
theorem cutR_pos {s e : Int} : ∀ {l : List Run} {b : Int}, ∀ x ∈ cutR s e b l, 1 ≤ x.2
  | [], _, x, h => by cases h
  | r :: t, b, x, h => by
    rcases List.mem_append.mp (show x ∈ pieceR b s e r ++ cutR s e (b + r.2) t from h) with h | h
    · exact pieceR_pos h
    · exact cutR_pos x h
theorem Dat.ok {H : Hp} {v : V} {d : Dat} (hv : Rp H v d) (h : d.seq = true) : SeqOk d.runs := (seq_rp hv h).2
end
end UP

set_option Elab.async false
set_option linter.all false
set_option maxRecDepth 100000
set_option maxHeartbeats 4000000
namespace UP
open PySem PySem.Spec PyProof.Rows L2
section
variable {P : Program} {w : World} {K : PySem.W.Frag} {mg : Str → Option Value} {base : Heap}
/-- a whole number within bounds -/
theorem Dat.inI_int {d : Dat} {lo hi : Int} (h : d.inI lo hi = true) : ∃ n, d = .int n ∧ lo ≤ n ∧ n ≤ hi := by
  cases d with
  | int n => exact ⟨n, rfl, of_decide_eq_true h⟩
  | _ => cases h
end
end UP

set_option Elab.async false
set_option linter.all false
set_option maxRecDepth 100000
set_option maxHeartbeats 4000000
namespace UP
open PySem PySem.Spec PyProof.Rows L2
theorem stR_cons (r : Run) (l : List Run) (st : Option Run) : stR (r :: l) st = stR l (stepR st r.1 r.2) := rfl
/-! ### the moments without waiting items -/
def emP (st : Option Run) (b : Int) (r : Run) : List Int := match st with
  | none => []
  | some x => if leavR (some x) r.1 r.2 = x.2 then [b + x.2] else []
def emR : List Run → Option Run → Int → List Int
  | [], _, _ => []
  | r :: t, st, b => emP st b r ++ emR t (stepR st r.1 r.2) (b + r.2)
def emF (rs : List Run) (st : Option Run) : List Int := (if st = none then [0] else []) ++ emR rs st 0
theorem emR_snoc : ∀ (l : List Run) (r : Run) (st : Option Run) (b : Int), emR (l ++ [r]) st b = emR l st b ++ emP (stR l st) (b + lenR l) r
  | [], r, st, b => by
    show emP st b r ++ [] = [] ++ emP st (b + lenR []) r
    rw [lenR_nil, Int.add_zero, List.append_nil, List.nil_append]
  | x :: t, r, st, b => by
    show emP st b x ++ emR (t ++ [r]) (stepR st x.1 x.2) (b + x.2) = (emP st b x ++ emR t (stepR st x.1 x.2) (b + x.2)) ++ emP (stR (x :: t) st) (b + lenR (x :: t)) r
    rw [emR_snoc t, stR_cons, lenR_cons, List.append_assoc, Int.add_assoc]
theorem emP_len (st : Option Run) (b : Int) (r : Run) : (emP st b r).length ≤ 1 := by
  cases st with
  | none => exact Nat.zero_le _
  | some x =>
    show (if leavR (some x) r.1 r.2 = x.2 then [b + x.2] else []).length ≤ 1
    split <;> simp
theorem emR_len : ∀ (l : List Run) (st : Option Run) (b : Int), (emR l st b).length ≤ l.length
  | [], _, _ => Nat.le_refl _
  | r :: t, st, b => by
    show (emP st b r ++ emR t (stepR st r.1 r.2) (b + r.2)).length ≤ (r :: t).length
    have h1 := emP_len st b r
    have h2 := emR_len t (stepR st r.1 r.2) (b + r.2)
    rw [List.length_append, List.length_cons]
    omega
theorem emF_len (rs : List Run) (st : Option Run) : (emF rs st).length ≤ rs.length + 1 := by
  unfold emF
  have h2 := emR_len rs st 0
  rw [List.length_append]
  split <;> simp only [List.length_cons, List.length_nil] <;> omega
theorem emF_snoc (l : List Run) (r : Run) (st : Option Run) : emF (l ++ [r]) st = emF l st ++ emP (stR l st) (lenR l) r := by
  unfold emF
  rw [emR_snoc, List.append_assoc, Int.zero_add]
/-! ### the greatest number of waiting items -/
def mwN (mm : Int × Int) (st : Option Run) (e : Int) : Int × Int := if mm.1 < numR st then (numR st, e) else mm
def mwR : List Run → Option Run → Int × Int → Int → Int × Int
  | [], _, mm, _ => mm
  | r :: t, st, mm, e => mwR t (stepR st r.1 r.2) (mwN mm (stepR st r.1 r.2) (e + r.2)) (e + r.2)
def mwF (rs : List Run) (st : Option Run) : Int × Int := mwR rs st (numR st, 0) 0
theorem mwR_snoc : ∀ (l : List Run) (r : Run) (st : Option Run) (mm : Int × Int) (e : Int), mwR (l ++ [r]) st mm e = mwN (mwR l st mm e) (stepR (stR l st) r.1 r.2) (e + lenR l + r.2)
  | [], r, st, mm, e => by
    show mwN mm (stepR st r.1 r.2) (e + r.2) = mwN mm (stepR st r.1 r.2) (e + lenR [] + r.2)
    rw [lenR_nil, Int.add_zero]
  | x :: t, r, st, mm, e => by
    show mwR (t ++ [r]) (stepR st x.1 x.2) (mwN mm (stepR st x.1 x.2) (e + x.2)) (e + x.2) = mwN (mwR t (stepR st x.1 x.2) (mwN mm (stepR st x.1 x.2) (e + x.2)) (e + x.2)) (stepR (stR (x :: t) st) r.1 r.2) (e + lenR (x :: t) + r.2)
    rw [mwR_snoc t, stR_cons, lenR_cons, show e + x.2 + lenR t + r.2 = e + (x.2 + lenR t) + r.2 by omega]
section
variable {P : Program} {w : World} {K : PySem.W.Frag} {mg : Str → Option Value} {base : Heap}
end
end UP

set_option Elab.async false
set_option linter.all false
set_option maxRecDepth 100000
set_option maxHeartbeats 4000000
namespace UP
open PySem PySem.Spec PyProof.Rows L2
abbrev Rg := Int × Int
def PV (H : Hp) (v : V) (p : Int × Int) : Prop := ∃ t, v = .ref t ∧ H t = some (.tup [.int p.1, .int p.2])
theorem PV.same {H H' : Hp} {v : V} {p : Int × Int} (s : Same H H') (h : PV H v p) : PV H' v p := by
  obtain ⟨t, e, h⟩ := h
  exact ⟨t, e, s _ _ h⟩
theorem PV.grow {H : Hp} {D : Addr} {acc acc' : List V} {v : V} {p : Int × Int} (hD : H D = some (.lst acc)) (h : PV H v p) : PV (upd H D (.lst acc')) v p := by
  obtain ⟨t, e, h⟩ := h
  refine ⟨t, e, ?_⟩
  rw [upd_ne (ne_of h hD (by intro q; cases q))]
  exact h
/-! ### ranges without their first positions -/
def rmR (p : Rg) (n : Int) : Int := if p.2 - p.1 + 1 < n then p.2 - p.1 + 1 else n
def wfP (p : Rg) (n : Int) : List Rg := if p.1 + rmR p n ≤ p.2 then [(p.1 + rmR p n, p.2)] else []
def wfR : List Rg → Int → List Rg
  | [], _ => []
  | p :: t, n => wfP p n ++ wfR t (n - rmR p n)
/-- the number that is left to be removed behind some ranges -/
def wfN : List Rg → Int → Int
  | [], n => n
  | p :: t, n => wfN t (n - rmR p n)
theorem wfN_snoc : ∀ (l : List Rg) (p : Rg) (n : Int), wfN (l ++ [p]) n = wfN l n - rmR p (wfN l n)
  | [], _, _ => rfl
  | x :: t, p, n => wfN_snoc t p (n - rmR x n)
theorem wfR_snoc : ∀ (l : List Rg) (p : Rg) (n : Int), wfR (l ++ [p]) n = wfR l n ++ wfP p (wfN l n)
  | [], p, n => by
    show wfP p n ++ [] = [] ++ wfP p n
    rw [List.append_nil, List.nil_append]
  | x :: t, p, n => by
    show wfP x n ++ wfR (t ++ [p]) (n - rmR x n) = (wfP x n ++ wfR t (n - rmR x n)) ++ wfP p (wfN t (n - rmR x n))
    rw [wfR_snoc t, List.append_assoc]
def adP (st : Option Run) (b : Int) (r : Run) : List Rg := if leavR st r.1 r.2 < r.2 then [(b + leavR st r.1 r.2, b + r.2 - 1)] else []
def waR : List Run → Option Run → Int → List Rg → List Rg
  | [], _, _, R => R
  | r :: t, st, b, R => waR t (stepR st r.1 r.2) (b + r.2) (wfR R (leavR st r.1 r.2) ++ adP st b r)
theorem waR_snoc : ∀ (l : List Run) (r : Run) (st : Option Run) (b : Int) (R : List Rg), waR (l ++ [r]) st b R = wfR (waR l st b R) (leavR (stR l st) r.1 r.2) ++ adP (stR l st) (b + lenR l) r
  | [], r, st, b, R => by
    show wfR R (leavR st r.1 r.2) ++ adP st b r = wfR R (leavR st r.1 r.2) ++ adP st (b + lenR []) r
    rw [lenR_nil, Int.add_zero]
  | x :: t, r, st, b, R => by
    show waR (t ++ [r]) (stepR st x.1 x.2) (b + x.2) (wfR R (leavR st x.1 x.2) ++ adP st b x) = wfR (waR t (stepR st x.1 x.2) (b + x.2) (wfR R (leavR st x.1 x.2) ++ adP st b x)) (leavR (stR (x :: t) st) r.1 r.2) ++ adP (stR (x :: t) st) (b + lenR (x :: t)) r
    rw [waR_snoc t, stR_cons, lenR_cons, Int.add_assoc]
end UP

set_option Elab.async false
set_option linter.all false
set_option maxRecDepth 100000
set_option maxHeartbeats 4000000
namespace UP
open PySem PySem.Spec PyProof.Rows L2
/-! ### lists of ranges -/
def Rngs (H : Hp) (a : Addr) (R : List Rg) : Prop := ∃ xs, H a = some (.lst xs) ∧ Paired (PV H) xs R
theorem pvs_same {H H' : Hp} {xs : List V} {R : List Rg} (s : Same H H') (h : Paired (PV H) xs R) : Paired (PV H') xs R := Paired.imp (fun _ _ => PV.same s) h
theorem pvs_grow {H : Hp} {D : Addr} {acc acc' xs : List V} {R : List Rg} (hD : H D = some (.lst acc)) (h : Paired (PV H) xs R) : Paired (PV (upd H D (.lst acc'))) xs R := Paired.imp (fun _ _ => PV.grow hD) h
theorem Rngs.same {H H' : Hp} {a : Addr} {R : List Rg} (s : Same H H') (h : Rngs H a R) : Rngs H' a R := by
  obtain ⟨xs, hx, hp⟩ := h
  exact ⟨xs, s _ _ hx, pvs_same s hp⟩
theorem wfP_len (p : Rg) (n : Int) : (wfP p n).length ≤ 1 := by
  unfold wfP
  split <;> simp
theorem wfR_len : ∀ (R : List Rg) (n : Int), (wfR R n).length ≤ R.length
  | [], _ => Nat.le_refl _
  | p :: t, n => by
    have h1 := wfP_len p n
    have h2 := wfR_len t (n - rmR p n)
    show (wfP p n ++ wfR t (n - rmR p n)).length ≤ _
    rw [List.length_append, List.length_cons]
    omega
theorem adP_len (st : Option Run) (b : Int) (r : Run) : (adP st b r).length ≤ 1 := by
  unfold adP
  split <;> simp
theorem waR_len : ∀ (l : List Run) (st : Option Run) (b : Int) (R : List Rg), (waR l st b R).length ≤ R.length + l.length
  | [], _, _, _ => Nat.le_refl _
  | r :: t, st, b, R => by
    have h1 := waR_len t (stepR st r.1 r.2) (b + r.2) (wfR R (leavR st r.1 r.2) ++ adP st b r)
    have h2 := wfR_len R (leavR st r.1 r.2)
    have h3 := adP_len st b r
    rw [List.length_append] at h1
    show (waR t (stepR st r.1 r.2) (b + r.2) (wfR R (leavR st r.1 r.2) ++ adP st b r)).length ≤ _
    rw [List.length_cons]
    omega
theorem paired_snoc {α β : Type} {F : α → β → Prop} : ∀ {xs : List α} (l : List β) (y : β), Paired F xs (l ++ [y]) → ∃ xs0 x, xs = xs0 ++ [x] ∧ Paired F xs0 l ∧ F x y
  | _, [], y, h => by
    cases h with
    | cons h1 h2 =>
      cases h2
      exact ⟨[], _, rfl, .nil, h1⟩
  | _, z :: l, y, h => by
    cases h with
    | cons h1 h2 =>
      obtain ⟨xs0, x, e, h3, h4⟩ := paired_snoc l y h2
      exact ⟨_ :: xs0, x, by rw [e]; rfl, .cons h1 h3, h4⟩
theorem set_last {α : Type} : ∀ (l : List α) (x y : α), (l ++ [x]).set l.length y = l ++ [y]
  | [], _, _ => rfl
  | z :: l, x, y => congrArg (z :: ·) (set_last l x y)
theorem ixN_last {n : Nat} : ixN (n + 1) (-1) = some n := by
  unfold ixN
  simp
  omega
/-! ### how many positions -/
def wtR : List Rg → Int
  | [] => 0
  | p :: t => (p.2 - p.1 + 1) + wtR t
theorem wtR_app : ∀ (a b : List Rg), wtR (a ++ b) = wtR a + wtR b
  | [], b => (Int.zero_add _).symm
  | p :: t, b => by
    show (p.2 - p.1 + 1) + wtR (t ++ b) = (p.2 - p.1 + 1) + wtR t + wtR b
    rw [wtR_app t b]
    omega
def NE (R : List Rg) : Prop := ∀ p ∈ R, p.1 ≤ p.2
theorem NE.tail {p : Rg} {t : List Rg} (h : NE (p :: t)) : NE t := fun x hx => h x (List.mem_cons_of_mem _ hx)
theorem NE.wt : ∀ {R : List Rg}, NE R → 0 ≤ wtR R
  | [], _ => Int.le_refl _
  | p :: t, h => by
    have h1 := h p (List.mem_cons_self ..)
    have h2 := NE.wt h.tail
    show 0 ≤ (p.2 - p.1 + 1) + wtR t
    omega
theorem rm_facts {p : Rg} {n : Int} (h : p.1 ≤ p.2) (h0 : 0 ≤ n) : 0 ≤ rmR p n ∧ rmR p n ≤ n ∧ rmR p n ≤ p.2 - p.1 + 1 ∧ (rmR p n = n ∨ rmR p n = p.2 - p.1 + 1) := by
  unfold rmR
  split <;> omega
theorem wt_wf : ∀ (R : List Rg) (n : Int), NE R → 0 ≤ n → n ≤ wtR R → wtR (wfR R n) = wtR R - n ∧ NE (wfR R n)
  | [], n, _, h0, h1 => by
    have h1 : n ≤ 0 := h1
    refine ⟨?_, fun p hp => by cases hp⟩
    show (0 : Int) = 0 - n
    omega
  | p :: t, n, ne, h0, h1 => by
    have hp := ne p (List.mem_cons_self ..)
    obtain ⟨r0, r1, r2, r3⟩ := rm_facts hp h0
    have h1 : n ≤ (p.2 - p.1 + 1) + wtR t := h1
    have w := NE.wt ne.tail
    obtain ⟨ih1, ih2⟩ := wt_wf t (n - rmR p n) ne.tail (by omega) (by omega)
    have e1 : wtR (wfP p n) = p.2 - p.1 + 1 - rmR p n ∧ NE (wfP p n) := by
      unfold wfP
      by_cases c : p.1 + rmR p n ≤ p.2
      · rw [if_pos c]
        refine ⟨?_, fun x hx => by rw [List.mem_singleton.mp hx]; exact c⟩
        show p.2 - (p.1 + rmR p n) + 1 + 0 = _
        omega
      · rw [if_neg c]
        refine ⟨?_, fun x hx => by cases hx⟩
        show (0 : Int) = _
        omega
    refine ⟨?_, fun x hx => ?_⟩
    · show wtR (wfP p n ++ wfR t (n - rmR p n)) = (p.2 - p.1 + 1) + wtR t - n
      rw [wtR_app, e1.1, ih1]
      omega
    · rcases List.mem_append.mp (show x ∈ wfP p n ++ wfR t (n - rmR p n) from hx) with z | z
      · exact e1.2 x z
      · exact ih2 x z
section
variable {P : Program} {w : World} {K : PySem.W.Frag} {mg : Str → Option Value} {base : Heap}
/-! without_first: slots 0:ranges 1:number 2:kept 3:first 4:last 5:removed -/
abbrev s_without_first : Stmt := topS 44
theorem sc_without_first : FnScope ["ranges", "number", "kept", "first", "last", "removed"] ["ranges", "number"] (defScope s_without_first) := ⟨rfl, rfl, rfl, by decide +kernel, rfl, by decide +kernel, by decide +kernel⟩
def sp_without_first : Sp := fun vs H Q _ => ∃ (a : Addr) (R : List Rg) (n : Int), vs = [.ref a, .int n] ∧ Rngs H a R ∧ R.length ≤ 100000 ∧ ∀ H' p, Same H H' → H p = none → Rngs H' p (wfR R n) → Q (.ref p) H'
theorem ok_without_first (D : Df K mg "without_first" s_without_first) (T : Tx mg) : Has P w K mg base 1 "without_first" ["ranges", "number"] sp_without_first := by
  refine has_of D sc_without_first (fun _ _ _ _ _ _ us hl => match us, hl with | [_, _], _ => rfl) (fun vs H Q E h => ?_) (fun f cdv A outer s₀ H vs Q E hr h => ?_)
  · obtain ⟨a, R, n, rfl, _⟩ := h
    rfl
  · obtain ⟨a, R, n, rfl, ⟨xs, hx, hp⟩, l4, q⟩ := h
    have lx : xs.length = R.length := Paired.len hp
    refine ⟨_, (pss_cons (ps_set (i := 2) sc_without_first.nd rfl (by first | exact Or.inl rfl | exact Or.inr rfl) (pe_lst pa_nil))
    (pss_cons (ps_for PassesOwn.never rfl (pi_list (pv 0)) (pg_tup rfl (pgs_cons (pg_name (i := 3) sc_without_first.nd rfl (by first | exact Or.inl rfl | exact Or.inr rfl)) (pgs_cons (pg_name (i := 4) sc_without_first.nd rfl (by first | exact Or.inl rfl | exact Or.inr rfl)) pgs_nil)))
      (pss_cons (ps_set (i := 5) sc_without_first.nd rfl (by first | exact Or.inl rfl | exact Or.inr rfl) (pe_callB (call_min2 rfl) (by rfl) T.n_min (by decide +kernel) (pa_cons (pv 1) (pa_cons (pe_op op_add (pe_op op_sub (pv 4) (pv 3)) pe_int) pa_nil))))
    (C8.pss_cut (ps_if (pt_cmpR op_le (pe_op op_add (pv 3) (pv 5)) (pv 4) (nomark _)) (pss_one (ps_expr (pe_bm PySem.F.plainAttrs_list PySem.F.slot_list_append PySem.F.type_list_append mt_append (pv 2) (pa_cons (pe_tup (pa_cons (pe_op op_add (pv 3) (pv 5)) (pa_cons (pv 4) pa_nil))) pa_nil)))) pss_nil)
    (pss_one (ps_aug (i := 1) sc_without_first.nd rfl (by first | exact Or.inl rfl | exact Or.inr rfl) (pv 5) ip_sub)))))
    (pss_one (ps_ret (pv 2))))), ?_⟩
    refine ⟨Nat.zero_le _, fun p np => ?_⟩
    refine ⟨_, rfl, a, rfl, ⟨xs, .of (same_upd np _ _ hx)⟩, for_list (K := K) (a := a) (xs := xs) (fun i σ H' => ∃ b y3 y4 y5, b = wfN (R.take i) n ∧ σ = [some (.ref a), some (.int b), some (.ref p), y3, y4, y5] ∧ Same H H' ∧ ∃ ys, H' p = some (.lst ys) ∧ Paired (PV H') ys (wfR (R.take i) n))
      ⟨n, none, none, none, rfl, rfl, same_upd np, [], upd_same, .nil⟩ (fun i σ H' _ hP => ?_) (fun i x σ H1 ex hP => ?_) (fun σ H1 hP => ?_)⟩
    · obtain ⟨_, _, _, _, _, _, sm, _⟩ := hP
      exact .of (sm _ _ hx)
    · obtain ⟨b, y3, y4, y5, rfl, rfl, sm, ys, hL, hy⟩ := hP
      obtain ⟨r, er, hr1⟩ := Paired.at hp ex
      have hi : i < xs.length := (List.getElem?_eq_some_iff.mp ex).1
      obtain ⟨t, rfl, ht⟩ := PV.same sm hr1
      have el : wfN (R.take (i + 1)) n = wfN (R.take i) n - rmR r (wfN (R.take i) n) := by rw [take_snoc er, wfN_snoc]
      have ec : wfR (R.take (i + 1)) n = wfR (R.take i) n ++ wfP r (wfN (R.take i) n) := by rw [take_snoc er, wfR_snoc]
      refine ⟨t, _, rfl, .of ht, rfl, _, _, rfl, _, _, rfl, rfl, ?_⟩
      refine ⟨_, rfl, _, rfl, _, rfl, _, _, rfl, rfl, _, _, rfl, rfl, _, _, rfl, ?_⟩
      refine ⟨fun σ' H' => σ' = [some (.ref a), some (.int (wfN (R.take i) n)), some (.ref p), some (.int r.1), some (.int r.2), some (.int (rmR r (wfN (R.take i) n)))] ∧ Same H H' ∧ ∃ ys, H' p = some (.lst ys) ∧ Paired (PV H') ys (wfR (R.take (i + 1)) n), ?_, fun σ' H5 hM => ?_⟩
      · refine ⟨_, rfl, _, rfl, _, _, rfl, rfl, _, rfl, _, _, rfl, rfl, _, rfl, ite2 (fun e => ?_) (fun e => ?_)⟩
        · have e : r.1 + rmR r (wfN (R.take i) n) ≤ r.2 := of_decide_eq_true e
          have epc : wfP r (wfN (R.take i) n) = [(r.1 + rmR r (wfN (R.take i) n), r.2)] := if_pos e
          refine ⟨_, rfl, .inl ⟨rfl, _, SqL.of hL⟩, _, rfl, _, rfl, _, _, rfl, rfl, _, rfl, (by show 2 ≤ sizeLine; decide), fun u nn => ⟨p, _, _, rfl, rfl, same_upd nn _ _ hL, ?_, ?_⟩⟩
          · have h1 := Paired.len hy
            have h2 := wfR_len (R.take i) n
            rw [List.length_take] at h2
            exact small (by omega)
          · refine ⟨rfl, same_grow np (sm.trans (same_upd nn)), _, upd_same, ?_⟩
            rw [ec, epc]
            exact Paired.app (pvs_grow (same_upd nn _ _ hL) (pvs_same (same_upd nn) hy)) (.cons (PV.grow (same_upd nn _ _ hL) ⟨_, rfl, upd_same⟩) .nil)
        · have e : ¬ r.1 + rmR r (wfN (R.take i) n) ≤ r.2 := fun z => e (decide_eq_true z)
          have epc : wfP r (wfN (R.take i) n) = [] := if_neg e
          refine ⟨rfl, sm, _, hL, ?_⟩
          rw [ec, epc, List.append_nil]
          exact hy
      · obtain ⟨rfl, s5, ys5, hL5, hy5⟩ := hM
        exact ⟨_, rfl, _, rfl, _, _, rfl, rfl, _, _, _, _, el.symm, rfl, s5, ys5, hL5, hy5⟩
    · obtain ⟨b, y3, y4, y5, rfl, rfl, sm, ys, hL, hy⟩ := hP
      rw [lx, List.take_length] at hy
      exact ⟨_, rfl, q H1 p sm np ⟨ys, hL, hy⟩⟩
/-! add_range: slots 0:ranges 1:first 2:last -/
abbrev s_add_range : Stmt := topS 43
theorem sc_add_range : FnScope ["ranges", "first", "last"] ["ranges", "first", "last"] (defScope s_add_range) := ⟨rfl, rfl, rfl, by decide +kernel, rfl, by decide +kernel, by decide +kernel⟩
def sp_add_range : Sp := fun vs H Q _ => ∃ (a : Addr) (R : List Rg) (f l : Int), vs = [.ref a, .int f, .int l] ∧ Rngs H a R ∧ R.length ≤ 100000 ∧ NE R ∧ f ≤ l ∧ ∀ H' R', But a H H' → Rngs H' a R' → R'.length ≤ R.length + 1 → NE R' → wtR R' = wtR R + (l - f + 1) → Q .non H'
theorem ok_add_range (D : Df K mg "add_range" s_add_range) : Has P w K mg base 1 "add_range" ["ranges", "first", "last"] sp_add_range := by
  refine has_of D sc_add_range (fun _ _ _ _ _ _ us hl => match us, hl with | [_, _, _], _ => rfl) (fun vs H Q E h => ?_) (fun f cdv A outer s₀ H vs Q E hr h => ?_)
  · obtain ⟨a, R, x, l, rfl, _⟩ := h
    rfl
  · obtain ⟨a, R, x, l, rfl, ⟨xs, hx, hp⟩, l4, ne, xl, q⟩ := h
    have lx : xs.length = R.length := Paired.len hp
    have app : ∀ (p : Addr), H p = none → Q .non (upd (upd H p (.tup [.int x, .int l])) a (.lst (xs ++ [.ref p]))) := by
      intro p np
      have hx1 := same_upd (o := .tup [.int x, .int l]) np _ _ hx
      refine q _ (R ++ [(x, l)]) (fun b o nb eb => ?_) ⟨_, upd_same, Paired.app (pvs_grow hx1 (pvs_same (same_upd np) hp)) (.cons (PV.grow hx1 ⟨_, rfl, upd_same⟩) .nil)⟩ (by rw [List.length_append]; exact Nat.le_refl _) (fun p hp => ?_) ?_
      · rw [upd_ne nb]
        exact same_upd np _ _ eb
      · rcases List.mem_append.mp hp with z | z
        · exact ne p z
        · rw [List.mem_singleton.mp z]
          exact xl
      · rw [wtR_app]
        show _ + (l - x + 1 + 0) = _
        omega
    refine ⟨_, (pss_one (ps_if (PW.pt (pw_and (pt_truth (pv 0) (by intro _; rfl)) (pw_and1 (pt_cmpR op_eq (pe_op op_add (pe_ix ix_tup (pe_ix ix_list (pv 0) (pe_un un_neg pe_int) (fun _ _ => rfl)) pe_int (fun _ _ => rfl)) pe_int) (pv 1) (nomark _))))) (pss_one (ps_asg (pe_tup (pa_cons (pe_ix ix_tup (pe_ix ix_list (pv 0) (pe_un un_neg pe_int) (fun _ _ => rfl)) pe_int (fun _ _ => rfl)) (pa_cons (pv 2) pa_nil))) (pg_sub (pv 0) (pe_un un_neg pe_int) set_list))) (pss_one (ps_expr (pe_bm PySem.F.plainAttrs_list PySem.F.slot_list_append PySem.F.type_list_append mt_append (pv 0) (pa_cons (pe_tup (pa_cons (pv 1) (pa_cons (pv 2) pa_nil))) pa_nil)))))), ?_⟩
    rcases List.eq_nil_or_concat R with e0 | ⟨R0, y, e0⟩
    · subst e0
      cases hp
      refine ⟨_, rfl, false, .inl ⟨[], .of hx, rfl⟩, iteF ?_⟩
      exact iteF ⟨_, rfl, .inl ⟨rfl, _, SqL.of hx⟩, _, rfl, _, rfl, (by show 2 ≤ sizeLine; decide), fun u nn => ⟨a, _, _, rfl, rfl, same_upd nn _ _ hx, small (by show 0 ≤ _; omega), app u nn⟩⟩
    · rw [List.concat_eq_append] at e0
      subst e0
      obtain ⟨ys0, yv, rfl, hy0, ⟨tl, rfl, htl⟩⟩ := paired_snoc R0 y hp
      have exl : atI (ys0 ++ [V.ref tl]) (-1) = some (.ref tl) := atI_last _ _
      have tr : (!(ys0 ++ [V.ref tl]).isEmpty) = true := by cases ys0 <;> rfl
      have lx2 : (ys0 ++ [V.ref tl]).length ≤ 100000 := by rw [lx]; exact l4
      have i0 : atI [V.int y.1, V.int y.2] 0 = some (V.int y.1) := rfl
      have i1 : atI [V.int y.1, V.int y.2] 1 = some (V.int y.2) := rfl
      refine ⟨_, rfl, true, .inl ⟨_, .of hx, tr.symm⟩, iteT ?_⟩
      refine ⟨_, rfl, 1, rfl, a, _, -1, _, rfl, rfl, .of hx, exl, tl, _, 1, _, rfl, rfl, .of htl, i1, _, _, rfl, rfl, _, rfl, rfl, _, rfl, ite2 (fun e1 => ?_) (fun e1 => ?_)⟩
      · have e1 : y.2 + 1 = x := V.int.inj (of_decide_eq_true e1)
        refine ⟨_, rfl, 1, rfl, a, _, -1, _, rfl, rfl, .of hx, exl, tl, _, 0, _, rfl, rfl, .of htl, i0, _, rfl, (by show 2 ≤ sizeLine; decide), fun u nn => ⟨_, rfl, 1, rfl, a, _, -1, ys0.length, rfl, rfl, same_upd nn _ _ hx, ?_, ?_⟩⟩
        · rw [List.length_append]
          exact ixN_last
        · rw [set_last]
          have ny := ne y (List.mem_append.mpr (.inr (List.mem_singleton.mpr rfl)))
          refine q _ (R0 ++ [(y.1, l)]) (fun b o nb eb => ?_) ⟨_, upd_same, ?_⟩ ?_ (fun p hp => ?_) ?_
          · rw [upd_ne nb]
            exact same_upd nn _ _ eb
          · exact Paired.app (pvs_grow (same_upd nn _ _ hx) (pvs_same (same_upd nn) hy0)) (.cons (PV.grow (same_upd nn _ _ hx) ⟨u, rfl, upd_same⟩) .nil)
          · rw [List.length_append, List.length_append, List.length_singleton, List.length_singleton]
            omega
          · rcases List.mem_append.mp hp with z | z
            · exact ne p (List.mem_append.mpr (.inl z))
            · rw [List.mem_singleton.mp z]
              show y.1 ≤ l
              omega
          · rw [wtR_app, wtR_app]
            show _ + (l - y.1 + 1 + 0) = _ + (y.2 - y.1 + 1 + 0) + _
            omega
      · exact ⟨_, rfl, .inl ⟨rfl, _, SqL.of hx⟩, _, rfl, _, rfl, (by show 2 ≤ sizeLine; decide), fun u nn => ⟨a, _, _, rfl, rfl, same_upd nn _ _ hx, small (by omega), app u nn⟩⟩
/-! ranges_after_run: slots 0:ranges 1:start 2:count 3:leaving 4:kept -/
abbrev s_ranges_after_run : Stmt := topS 45
theorem sc_ranges_after_run : FnScope ["ranges", "start", "count", "leaving", "kept"] ["ranges", "start", "count", "leaving"] (defScope s_ranges_after_run) := ⟨rfl, rfl, rfl, by decide +kernel, rfl, by decide +kernel, by decide +kernel⟩
def sp_ranges_after_run : Sp := fun vs H Q _ => ∃ (a : Addr) (R : List Rg) (b c n : Int), vs = [.ref a, .int b, .int c, .int n] ∧ Rngs H a R ∧ R.length ≤ 90000 ∧ NE R ∧ 0 ≤ n ∧ n ≤ wtR R ∧ n ≤ c ∧ ∀ H' p R', Same H H' → H p = none → Rngs H' p R' → R'.length ≤ R.length + 1 → NE R' → wtR R' = wtR R - n + (c - n) → Q (.ref p) H'
theorem ok_ranges_after_run (D : Df K mg "ranges_after_run" s_ranges_after_run) (G_without_first : Has P w K mg base 1 "without_first" ["ranges", "number"] sp_without_first) (G_add_range : Has P w K mg base 1 "add_range" ["ranges", "first", "last"] sp_add_range) : Has P w K mg base 2 "ranges_after_run" ["ranges", "start", "count", "leaving"] sp_ranges_after_run := by
  refine has_of D sc_ranges_after_run (fun _ _ _ _ _ _ us hl => match us, hl with | [_, _, _, _], _ => rfl) (fun vs H Q E h => ?_) (fun f cdv A outer s₀ H vs Q E hr h => ?_)
  · obtain ⟨a, R, b, c, n, rfl, _⟩ := h
    rfl
  · obtain ⟨a, R, b, c, n, rfl, hR, l4, ne, n0, nw, nc, q⟩ := h
    obtain ⟨w1, w2⟩ := wt_wf R n ne n0 nw
    refine ⟨_, (pss_cons (ps_set (i := 4) sc_ranges_after_run.nd rfl (by first | exact Or.inl rfl | exact Or.inr rfl) (pe_callH G_without_first (hr.mono (by omega)) (by rfl) (pa_cons (pv 0) (pa_cons (pv 3) pa_nil))))
    (pss_cons (ps_if (pt_cmpR op_lt (pv 3) (pv 2) (nomark _)) (pss_one (ps_expr (pe_callH G_add_range (hr.mono (by omega)) (by rfl) (pa_cons (pv 4) (pa_cons (pe_op op_add (pv 1) (pv 3)) (pa_cons (pe_op op_sub (pe_op op_add (pv 1) (pv 2)) pe_int) pa_nil)))))) pss_nil)
    (pss_one (ps_ret (pv 4))))), ?_⟩
    refine ⟨_, rfl, _, rfl, a, R, n, rfl, hR, by omega, fun H5 p5 s5 n5 h5 => ?_⟩
    have lw := wfR_len R n
    refine ⟨_, rfl, _, rfl, _, _, rfl, rfl, _, rfl, ite2 (fun e => ?_) (fun e => ?_)⟩
    · have e : n < c := of_decide_eq_true e
      refine ⟨_, rfl, _, rfl, _, rfl, _, _, rfl, rfl, _, rfl, _, rfl, _, _, rfl, rfl, _, _, rfl, rfl, p5, _, _, _, rfl, h5, by omega, w2, by omega, fun H6 R6 b6 h6 l6 n6 t6 => ?_⟩
      exact ⟨_, rfl, q _ p5 R6 (fun x o hx => b6 _ _ (ne_of_none hx n5) (s5 _ _ hx)) n5 h6 (by omega) n6 (by rw [t6, w1]; omega)⟩
    · have e : ¬ n < c := fun z => e (decide_eq_true z)
      exact ⟨_, rfl, q _ p5 _ s5 n5 h5 (by omega) w2 (by rw [w1]; omega)⟩
end
end UP

set_option Elab.async false
set_option linter.all false
set_option maxRecDepth 100000
set_option maxHeartbeats 4000000
namespace UP
open PySem PySem.Spec PyProof.Rows L2
/-! ### blocks of pairs -/
abbrev Blk := Int × Int × Int
def pgR : List Blk → Int → Option Int
  | [], _ => none
  | x :: t, p => if x.1 ≤ p ∧ p < x.1 + x.2.2 then some (x.2.1 + p - x.1) else if x.2.1 ≤ p ∧ p < x.2.1 + x.2.2 then some (x.1 + p - x.2.1) else pgR t p
def oI : Option Int → V
  | none => .non
  | some i => .int i
theorem drop_at {α : Type} {l : List α} {i : Nat} {x : α} (h : l[i]? = some x) : l.drop i = x :: l.drop (i + 1) := by
  obtain ⟨hi, e⟩ := List.getElem?_eq_some_iff.mp h
  rw [List.drop_eq_getElem_cons hi, e]
def BV (H : Hp) (v : V) (b : Blk) : Prop := ∃ t, v = .ref t ∧ H t = some (.tup [.int b.1, .int b.2.1, .int b.2.2])
theorem BV.same {H H' : Hp} {v : V} {p : Blk} (s : Same H H') (h : BV H v p) : BV H' v p := by
  obtain ⟨t, e, h⟩ := h
  exact ⟨t, e, s _ _ h⟩
theorem BV.grow {H : Hp} {D : Addr} {acc acc' : List V} {v : V} {p : Blk} (hD : H D = some (.lst acc)) (h : BV H v p) : BV (upd H D (.lst acc')) v p := by
  obtain ⟨t, e, h⟩ := h
  refine ⟨t, e, ?_⟩
  rw [upd_ne (ne_of h hD (by intro q; cases q))]
  exact h
theorem BV.but {H H' : Hp} {D : Addr} {acc : List V} {v : V} {p : Blk} (hD : H D = some (.lst acc)) (s : But D H H') (h : BV H v p) : BV H' v p := by
  obtain ⟨t, e, h⟩ := h
  exact ⟨t, e, s _ _ (ne_of h hD (by intro q; cases q)) h⟩
def Blks (H : Hp) (a : Addr) (B : List Blk) : Prop := ∃ xs, H a = some (.lst xs) ∧ Paired (BV H) xs B
theorem bvs_same {H H' : Hp} {xs : List V} {R : List Blk} (s : Same H H') (h : Paired (BV H) xs R) : Paired (BV H') xs R := Paired.imp (fun _ _ => BV.same s) h
theorem bvs_grow {H : Hp} {D : Addr} {acc acc' xs : List V} {R : List Blk} (hD : H D = some (.lst acc)) (h : Paired (BV H) xs R) : Paired (BV (upd H D (.lst acc'))) xs R := Paired.imp (fun _ _ => BV.grow hD) h
theorem Blks.same {H H' : Hp} {a : Addr} {R : List Blk} (s : Same H H') (h : Blks H a R) : Blks H' a R := by
  obtain ⟨xs, hx, hp⟩ := h
  exact ⟨xs, s _ _ hx, bvs_same s hp⟩
def brP (p : Rg) (b n : Int) : List Blk := if 0 < rmR p n then [(p.1, b, rmR p n)] else []
def brR : List Rg → Int → Int → List Blk
  | [], _, _ => []
  | p :: t, b, n => brP p b n ++ brR t (b + rmR p n) (n - rmR p n)
theorem brR_snoc : ∀ (l : List Rg) (p : Rg) (b n : Int), brR (l ++ [p]) b n = brR l b n ++ brP p (b + (n - wfN l n)) (wfN l n)
  | [], p, b, n => by
    show brP p b n ++ [] = [] ++ brP p (b + (n - n)) n
    rw [List.append_nil, List.nil_append, show b + (n - n) = b by omega]
  | x :: t, p, b, n => by
    show brP x b n ++ brR (t ++ [p]) (b + rmR x n) (n - rmR x n) = (brP x b n ++ brR t (b + rmR x n) (n - rmR x n)) ++ brP p (b + (n - wfN t (n - rmR x n))) (wfN t (n - rmR x n))
    rw [brR_snoc t, List.append_assoc, show b + rmR x n + (n - rmR x n - wfN t (n - rmR x n)) = b + (n - wfN t (n - rmR x n)) by omega]
theorem brP_len (p : Rg) (b n : Int) : (brP p b n).length ≤ 1 := by
  unfold brP
  split <;> simp
theorem brR_len : ∀ (R : List Rg) (b n : Int), (brR R b n).length ≤ R.length
  | [], _, _ => Nat.le_refl _
  | p :: t, b, n => by
    have h1 := brP_len p b n
    have h2 := brR_len t (b + rmR p n) (n - rmR p n)
    show (brP p b n ++ brR t (b + rmR p n) (n - rmR p n)).length ≤ _
    rw [List.length_append, List.length_cons]
    omega
def addB (B : List Blk) (x : Blk) : List Blk := match B.getLast? with
  | none => B ++ [x]
  | some l => if l.1 + l.2.2 = x.1 ∧ l.2.1 + l.2.2 = x.2.1 then B.dropLast ++ [(l.1, l.2.1, l.2.2 + x.2.2)] else B ++ [x]
theorem addB_len (B : List Blk) (x : Blk) : (addB B x).length ≤ B.length + 1 := by
  unfold addB
  split
  · rw [List.length_append]
    exact Nat.le_refl _
  · split
    · rw [List.length_append, List.length_dropLast]
      simp only [List.length_cons, List.length_nil]
      omega
    · rw [List.length_append]
      exact Nat.le_refl _
def addsB (B xs : List Blk) : List Blk := xs.foldl addB B
theorem addsB_snoc (B xs : List Blk) (x : Blk) : addsB B (xs ++ [x]) = addB (addsB B xs) x := by
  unfold addsB
  rw [List.foldl_append]
  rfl
theorem addsB_len : ∀ (xs B : List Blk), (addsB B xs).length ≤ B.length + xs.length
  | [], B => Nat.le_refl _
  | x :: t, B => by
    have h1 := addsB_len t (addB B x)
    have h2 := addB_len B x
    show (addsB (addB B x) t).length ≤ _
    rw [List.length_cons]
    omega
theorem shaped_not {B : List Blk} : B = [] ∨ ∃ B0 l, B = B0 ++ [l] := by
  rcases List.eq_nil_or_concat B with e | ⟨B0, l, e⟩
  · exact .inl e
  · exact .inr ⟨B0, l, by rw [e, List.concat_eq_append]⟩
def PosB (B : List Blk) : Prop := ∀ x ∈ B, 0 < x.2.2
def cntB (B : List Blk) : Int := (B.map (·.2.2)).sum
theorem cntB_cons (x : Blk) (t : List Blk) : cntB (x :: t) = x.2.2 + cntB t := by
  unfold cntB
  rw [List.map_cons, List.sum_cons]
theorem cntB_app : ∀ (a b : List Blk), cntB (a ++ b) = cntB a + cntB b
  | [], b => (Int.zero_add _).symm
  | x :: t, b => by
    rw [List.cons_append, cntB_cons, cntB_cons, cntB_app t b]
    omega
theorem cnt_br : ∀ (R : List Rg) (b n : Int), NE R → 0 ≤ n → n ≤ wtR R → cntB (brR R b n) = n
  | [], b, n, _, h0, h1 => by
    have h1 : n ≤ 0 := h1
    show (0 : Int) = n
    omega
  | p :: t, b, n, ne, h0, h1 => by
    have hp := ne p (List.mem_cons_self ..)
    obtain ⟨r0, r1, r2, r3⟩ := rm_facts hp h0
    have h1 : n ≤ (p.2 - p.1 + 1) + wtR t := h1
    have w := NE.wt ne.tail
    have ih := cnt_br t (b + rmR p n) (n - rmR p n) ne.tail (by omega) (by omega)
    show cntB (brP p b n ++ brR t (b + rmR p n) (n - rmR p n)) = n
    rw [cntB_app, ih]
    unfold brP
    by_cases c : 0 < rmR p n
    · rw [if_pos c, cntB_cons]
      show rmR p n + 0 + _ = n
      omega
    · rw [if_neg c]
      show 0 + (n - rmR p n) = n
      omega
theorem pos_br : ∀ (R : List Rg) (b n : Int), PosB (brR R b n)
  | [], b, n => fun x hx => by cases hx
  | p :: t, b, n => fun x hx => by
    rcases List.mem_append.mp (show x ∈ brP p b n ++ brR t (b + rmR p n) (n - rmR p n) from hx) with z | z
    · unfold brP at z
      by_cases c : 0 < rmR p n
      · rw [if_pos c] at z
        rw [List.mem_singleton.mp z]
        exact c
      · rw [if_neg c] at z
        cases z
    · exact pos_br t _ _ x z
theorem cnt_add (B : List Blk) (x : Blk) : cntB (addB B x) = cntB B + x.2.2 := by
  rcases shaped_not (B := B) with e | ⟨B0, l, e⟩
  · subst e
    show cntB [x] = cntB [] + x.2.2
    rw [cntB_cons]
    show x.2.2 + 0 = 0 + x.2.2
    omega
  · subst e
    unfold addB
    rw [List.getLast?_concat, List.dropLast_concat]
    show cntB (if l.1 + l.2.2 = x.1 ∧ l.2.1 + l.2.2 = x.2.1 then B0 ++ [(l.1, l.2.1, l.2.2 + x.2.2)] else (B0 ++ [l]) ++ [x]) = _
    split
    · rw [cntB_app, cntB_app, cntB_cons, cntB_cons]
      show _ + (l.2.2 + x.2.2 + 0) = _ + (l.2.2 + 0) + _
      omega
    · rw [cntB_app (B0 ++ [l]), cntB_cons]
      show _ + (x.2.2 + 0) = _
      omega
theorem pos_add {B : List Blk} {x : Blk} (h : PosB B) (hx : 0 < x.2.2) : PosB (addB B x) := by
  rcases shaped_not (B := B) with e | ⟨B0, l, e⟩
  · subst e
    intro y hy
    rw [List.mem_singleton.mp (show y ∈ [x] from hy)]
    exact hx
  · subst e
    unfold addB
    rw [List.getLast?_concat, List.dropLast_concat]
    show PosB (if l.1 + l.2.2 = x.1 ∧ l.2.1 + l.2.2 = x.2.1 then B0 ++ [(l.1, l.2.1, l.2.2 + x.2.2)] else (B0 ++ [l]) ++ [x])
    have hl := h l (List.mem_append.mpr (.inr (List.mem_singleton.mpr rfl)))
    split
    · intro y hy
      rcases List.mem_append.mp hy with z | z
      · exact h y (List.mem_append.mpr (.inl z))
      · rw [List.mem_singleton.mp z]
        show 0 < l.2.2 + x.2.2
        omega
    · intro y hy
      rcases List.mem_append.mp hy with z | z
      · exact h y z
      · rw [List.mem_singleton.mp z]
        exact hx
theorem adds_facts : ∀ (xs B : List Blk), PosB B → PosB xs → PosB (addsB B xs) ∧ cntB (addsB B xs) = cntB B + cntB xs
  | [], B, h, _ => ⟨h, (Int.add_zero _).symm⟩
  | x :: t, B, h, k => by
    obtain ⟨h1, h2⟩ := adds_facts t (addB B x) (pos_add h (k x (List.mem_cons_self ..))) fun y hy => k y (List.mem_cons_of_mem _ hy)
    refine ⟨h1, ?_⟩
    show cntB (addsB (addB B x) t) = _
    rw [h2, cnt_add, cntB_cons]
    omega
/-- who waits and who leaves -/
def PosO (st : Option Run) : Prop := ∀ r, st = some r → 1 ≤ r.2
theorem num_step {st : Option Run} {k : Str} {c : Int} (h : PosO st) (hc : 1 ≤ c) : 0 ≤ leavR st k c ∧ leavR st k c ≤ c ∧ leavR st k c ≤ numR st ∧ numR (stepR st k c) = numR st + c - 2 * leavR st k c ∧ PosO (stepR st k c) := by
  cases st with
  | none =>
    refine ⟨Int.le_refl _, ?_, Int.le_refl _, ?_, fun r hr => ?_⟩
    · show 0 ≤ c
      omega
    · show c = 0 + c - 2 * 0
      omega
    · cases hr
      exact hc
  | some r =>
    have hr := h r rfl
    unfold leavR stepR
    show 0 ≤ (if r.1 = k then 0 else if c < r.2 then c else r.2) ∧ (if r.1 = k then 0 else if c < r.2 then c else r.2) ≤ c ∧ (if r.1 = k then 0 else if c < r.2 then c else r.2) ≤ r.2 ∧ numR (if r.1 = k then some (k, r.2 + c) else if 0 < r.2 - c then some (r.1, r.2 - c) else if r.2 - c = 0 then none else some (k, -(r.2 - c))) = r.2 + c - 2 * (if r.1 = k then 0 else if c < r.2 then c else r.2) ∧ PosO (if r.1 = k then some (k, r.2 + c) else if 0 < r.2 - c then some (r.1, r.2 - c) else if r.2 - c = 0 then none else some (k, -(r.2 - c)))
    by_cases e : r.1 = k
    · rw [if_pos e, if_pos e]
      refine ⟨by omega, by omega, by omega, ?_, fun x hx => ?_⟩
      · show r.2 + c = _
        omega
      · cases hx
        show 1 ≤ r.2 + c
        omega
    · rw [if_neg e, if_neg e]
      by_cases e1 : 0 < r.2 - c
      · rw [if_pos (show c < r.2 by omega), if_pos e1]
        refine ⟨by omega, by omega, by omega, ?_, fun x hx => ?_⟩
        · show r.2 - c = _
          omega
        · cases hx
          show 1 ≤ r.2 - c
          omega
      · rw [if_neg (show ¬ c < r.2 by omega), if_neg e1]
        by_cases e2 : r.2 - c = 0
        · rw [if_pos e2]
          refine ⟨by omega, by omega, by omega, ?_, fun x hx => by cases hx⟩
          show (0 : Int) = _
          omega
        · rw [if_neg e2]
          refine ⟨by omega, by omega, by omega, ?_, fun x hx => ?_⟩
          · show -(r.2 - c) = _
            omega
          · cases hx
            show 1 ≤ -(r.2 - c)
            omega
theorem Rngs.butB {H H' : Hp} {D a : Addr} {acc : List V} {R : List Rg} (hD : H D = some (.lst acc)) (n : a ≠ D) (s : But D H H') (h : Rngs H a R) : Rngs H' a R := by
  obtain ⟨xs, hx, hp⟩ := h
  refine ⟨xs, s _ _ n hx, Paired.imp (fun v p z => ?_) hp⟩
  obtain ⟨t, e, ht⟩ := z
  exact ⟨t, e, s _ _ (ne_of ht hD (by intro q; cases q)) ht⟩
theorem Runs.butB {H H' : Hp} {D a : Addr} {acc : List V} {R : List Run} (hD : H D = some (.lst acc)) (n : a ≠ D) (s : But D H H') (h : Runs H a R) : Runs H' a R := by
  obtain ⟨xs, hx, hp⟩ := h
  refine ⟨xs, s _ _ n hx, Paired.imp (fun v p z => ?_) hp⟩
  obtain ⟨t, e, ht⟩ := z
  exact ⟨t, e, s _ _ (ne_of ht hD (by intro q; cases q)) ht⟩
theorem StV.butB {H H' : Hp} {D : Addr} {acc : List V} {v : V} {st : Option Run} (hD : H D = some (.lst acc)) (s : But D H H') (h : StV H v st) : StV H' v st := by
  cases st with
  | none => exact h
  | some r =>
    obtain ⟨t, e, ht⟩ := h
    exact ⟨t, e, s _ _ (ne_of ht hD (by intro q; cases q)) ht⟩
/-- what was there before stays, whatever is done to a list that is new -/
theorem Same.butB {H H1 H' : Hp} {D : Addr} (n : H D = none) (s : Same H H1) (b : But D H1 H') : Same H H' := fun a o e => b _ _ (ne_of_none e n) (s _ _ e)
section
variable {P : Program} {w : World} {K : PySem.W.Frag} {mg : Str → Option Value} {base : Heap}
/-! blocks_of_run: slots 0:ranges 1:start 2:leaving 3:blocks 4:first 5:last 6:size -/
abbrev s_blocks_of_run : Stmt := topS 48
theorem sc_blocks_of_run : FnScope ["ranges", "start", "leaving", "blocks", "first", "last", "size"] ["ranges", "start", "leaving"] (defScope s_blocks_of_run) := ⟨rfl, rfl, rfl, by decide +kernel, rfl, by decide +kernel, by decide +kernel⟩
def sp_blocks_of_run : Sp := fun vs H Q _ => ∃ (a : Addr) (R : List Rg) (b n : Int), vs = [.ref a, .int b, .int n] ∧ Rngs H a R ∧ R.length ≤ 100000 ∧ ∀ H' p, Same H H' → H p = none → Blks H' p (brR R b n) → Q (.ref p) H'
theorem ok_blocks_of_run (D : Df K mg "blocks_of_run" s_blocks_of_run) (T : Tx mg) : Has P w K mg base 1 "blocks_of_run" ["ranges", "start", "leaving"] sp_blocks_of_run := by
  refine has_of D sc_blocks_of_run (fun _ _ _ _ _ _ us hl => match us, hl with | [_, _, _], _ => rfl) (fun vs H Q E h => ?_) (fun f cdv A outer s₀ H vs Q E hr h => ?_)
  · obtain ⟨a, R, b, n, rfl, _⟩ := h
    rfl
  · obtain ⟨a, R, b, n, rfl, ⟨xs, hx, hp⟩, l4, q⟩ := h
    have lx : xs.length = R.length := Paired.len hp
    refine ⟨_, (pss_cons (ps_set (i := 3) sc_blocks_of_run.nd rfl (by first | exact Or.inl rfl | exact Or.inr rfl) (pe_lst pa_nil))
    (pss_cons (ps_for PassesOwn.never rfl (pi_list (pv 0)) (pg_tup rfl (pgs_cons (pg_name (i := 4) sc_blocks_of_run.nd rfl (by first | exact Or.inl rfl | exact Or.inr rfl)) (pgs_cons (pg_name (i := 5) sc_blocks_of_run.nd rfl (by first | exact Or.inl rfl | exact Or.inr rfl)) pgs_nil)))
      (pss_cons (ps_set (i := 6) sc_blocks_of_run.nd rfl (by first | exact Or.inl rfl | exact Or.inr rfl) (pe_callB (call_min2 rfl) (by rfl) T.n_min (by decide +kernel) (pa_cons (pv 2) (pa_cons (pe_op op_add (pe_op op_sub (pv 5) (pv 4)) pe_int) pa_nil))))
    (C8.pss_cut (ps_if (pt_cmpR op_gt (pv 6) pe_int (nomark _)) (pss_one (ps_expr (pe_bm PySem.F.plainAttrs_list PySem.F.slot_list_append PySem.F.type_list_append mt_append (pv 3) (pa_cons (pe_tup (pa_cons (pv 4) (pa_cons (pv 1) (pa_cons (pv 6) pa_nil)))) pa_nil)))) pss_nil)
    (pss_cons (ps_aug (i := 1) sc_blocks_of_run.nd rfl (by first | exact Or.inl rfl | exact Or.inr rfl) (pv 6) ip_add)
    (pss_one (ps_aug (i := 2) sc_blocks_of_run.nd rfl (by first | exact Or.inl rfl | exact Or.inr rfl) (pv 6) ip_sub))))))
    (pss_one (ps_ret (pv 3))))), ?_⟩
    refine ⟨Nat.zero_le _, fun p np => ?_⟩
    refine ⟨_, rfl, a, rfl, ⟨xs, .of (same_upd np _ _ hx)⟩, for_list (K := K) (a := a) (xs := xs) (fun i σ H' => ∃ c m y4 y5 y6, m = wfN (R.take i) n ∧ c = b + (n - wfN (R.take i) n) ∧ σ = [some (.ref a), some (.int c), some (.int m), some (.ref p), y4, y5, y6] ∧ Same H H' ∧ ∃ ys, H' p = some (.lst ys) ∧ Paired (BV H') ys (brR (R.take i) b n))
      ⟨b, n, none, none, none, rfl, (by show b = b + (n - n); omega), rfl, same_upd np, [], upd_same, .nil⟩ (fun i σ H' _ hP => ?_) (fun i x σ H1 ex hP => ?_) (fun σ H1 hP => ?_)⟩
    · obtain ⟨_, _, _, _, _, _, _, _, sm, _⟩ := hP
      exact .of (sm _ _ hx)
    · obtain ⟨c, m, y4, y5, y6, em, ecc, rfl, sm, ys, hL, hy⟩ := hP
      obtain ⟨r, er, hr1⟩ := Paired.at hp ex
      have hi : i < xs.length := (List.getElem?_eq_some_iff.mp ex).1
      obtain ⟨t, rfl, ht⟩ := PV.same sm hr1
      have el : wfN (R.take (i + 1)) n = m - rmR r m := by rw [take_snoc er, wfN_snoc, em]
      have ec : brR (R.take (i + 1)) b n = brR (R.take i) b n ++ brP r c m := by rw [take_snoc er, brR_snoc, ecc, em]
      refine ⟨t, _, rfl, .of ht, rfl, _, _, rfl, _, _, rfl, rfl, ?_⟩
      refine ⟨_, rfl, _, rfl, _, rfl, _, _, rfl, rfl, _, _, rfl, rfl, _, _, rfl, ?_⟩
      refine ⟨fun σ' H' => σ' = [some (.ref a), some (.int c), some (.int m), some (.ref p), some (.int r.1), some (.int r.2), some (.int (rmR r m))] ∧ Same H H' ∧ ∃ ys, H' p = some (.lst ys) ∧ Paired (BV H') ys (brR (R.take (i + 1)) b n), ?_, fun σ' H5 hM => ?_⟩
      · refine ⟨_, rfl, _, _, rfl, rfl, _, rfl, ite2 (fun e => ?_) (fun e => ?_)⟩
        · have e : 0 < rmR r m := of_decide_eq_true e
          have epc : brP r c m = [(r.1, c, rmR r m)] := if_pos e
          refine ⟨_, rfl, .inl ⟨rfl, _, SqL.of hL⟩, _, rfl, _, rfl, _, rfl, (by show 3 ≤ sizeLine; decide), fun u nn => ⟨p, _, _, rfl, rfl, same_upd nn _ _ hL, ?_, ?_⟩⟩
          · have h1 := Paired.len hy
            have h2 := brR_len (R.take i) b n
            rw [List.length_take] at h2
            exact small (by omega)
          · refine ⟨rfl, same_grow np (sm.trans (same_upd nn)), _, upd_same, ?_⟩
            rw [ec, epc]
            exact Paired.app (bvs_grow (same_upd nn _ _ hL) (bvs_same (same_upd nn) hy)) (.cons (BV.grow (same_upd nn _ _ hL) ⟨_, rfl, upd_same⟩) .nil)
        · have e : ¬ 0 < rmR r m := fun z => e (decide_eq_true z)
          have epc : brP r c m = [] := if_neg e
          refine ⟨rfl, sm, _, hL, ?_⟩
          rw [ec, epc, List.append_nil]
          exact hy
      · obtain ⟨rfl, s5, ys5, hL5, hy5⟩ := hM
        exact ⟨_, rfl, _, rfl, _, _, rfl, rfl, _, rfl, _, rfl, _, _, rfl, rfl, _, _, _, _, _, el.symm, (by show c + rmR r m = b + (n - wfN (R.take (i + 1)) n); rw [el]; omega), rfl, s5, ys5, hL5, hy5⟩
    · obtain ⟨c, m, y3, y4, y5, em, ecc, rfl, sm, ys, hL, hy⟩ := hP
      rw [lx, List.take_length] at hy
      exact ⟨_, rfl, q H1 p sm np ⟨ys, hL, hy⟩⟩
/-! add_block: slots 0:blocks 1:first 2:second 3:count 4:last_first 5:last_second 6:size -/
abbrev s_add_block : Stmt := topS 49
theorem sc_add_block : FnScope ["blocks", "first", "second", "count", "last_first", "last_second", "size"] ["blocks", "first", "second", "count"] (defScope s_add_block) := ⟨rfl, rfl, rfl, by decide +kernel, rfl, by decide +kernel, by decide +kernel⟩
def sp_add_block : Sp := fun vs H Q _ => ∃ (a : Addr) (B : List Blk) (x : Blk), vs = [.ref a, .int x.1, .int x.2.1, .int x.2.2] ∧ Blks H a B ∧ B.length ≤ 900000 ∧ ∀ H', But a H H' → Blks H' a (addB B x) → Q .non H'
theorem ok_add_block (D : Df K mg "add_block" s_add_block) : Has P w K mg base 1 "add_block" ["blocks", "first", "second", "count"] sp_add_block := by
  refine has_of D sc_add_block (fun _ _ _ _ _ _ us hl => match us, hl with | [_, _, _, _], _ => rfl) (fun vs H Q E h => ?_) (fun f cdv A outer s₀ H vs Q E hr h => ?_)
  · obtain ⟨a, R, x, rfl, _⟩ := h
    rfl
  · obtain ⟨a, B, x, rfl, ⟨xs, hx, hp⟩, l4, q⟩ := h
    have lx : xs.length = B.length := Paired.len hp
    have app : addB B x = B ++ [x] → ∀ (p : Addr), H p = none → Q .non (upd (upd H p (.tup [.int x.1, .int x.2.1, .int x.2.2])) a (.lst (xs ++ [.ref p]))) := by
      intro e p np
      have hx1 := same_upd (o := .tup [.int x.1, .int x.2.1, .int x.2.2]) np _ _ hx
      refine q _ ((Same.but (same_upd np)).trans but_upd) ⟨_, upd_same, ?_⟩
      rw [e]
      exact Paired.app (bvs_grow hx1 (bvs_same (same_upd np) hp)) (.cons (BV.grow hx1 ⟨_, rfl, upd_same⟩) .nil)
    refine ⟨_, (pss_cons (ps_if (pt_truth (pv 0) (by intro _; rfl)) (pss_cons (ps_asg (pe_ix ix_list (pv 0) (pe_un un_neg pe_int) (fun _ _ => rfl)) (pg_tup rfl (pgs_cons (pg_name (i := 4) sc_add_block.nd rfl (by first | exact Or.inl rfl | exact Or.inr rfl)) (pgs_cons (pg_name (i := 5) sc_add_block.nd rfl (by first | exact Or.inl rfl | exact Or.inr rfl)) (pgs_cons (pg_name (i := 6) sc_add_block.nd rfl (by first | exact Or.inl rfl | exact Or.inr rfl)) pgs_nil)))))
    (pss_one (ps_if (PW.pt (pw_and (pt_cmpR op_eq (pe_op op_add (pv 4) (pv 6)) (pv 1) (nomark _)) (pw_and1 (pt_cmpR op_eq (pe_op op_add (pv 5) (pv 6)) (pv 2) (nomark _))))) (pss_cons (ps_asg (pe_tup (pa_cons (pv 4) (pa_cons (pv 5) (pa_cons (pe_op op_add (pv 6) (pv 3)) pa_nil)))) (pg_sub (pv 0) (pe_un un_neg pe_int) set_list))
    (pss_one ps_retN)) pss_nil))) pss_nil)
    (pss_one (ps_expr (pe_bm PySem.F.plainAttrs_list PySem.F.slot_list_append PySem.F.type_list_append mt_append (pv 0) (pa_cons (pe_tup (pa_cons (pv 1) (pa_cons (pv 2) (pa_cons (pv 3) pa_nil)))) pa_nil))))), ?_⟩
    rcases shaped_not (B := B) with e0 | ⟨B0, l, e0⟩
    · subst e0
      cases hp
      refine ⟨_, rfl, false, .inl ⟨[], .of hx, rfl⟩, iteF ?_⟩
      exact ⟨_, rfl, .inl ⟨rfl, _, SqL.of hx⟩, _, rfl, _, rfl, _, rfl, (by show 3 ≤ sizeLine; decide), fun u nn => ⟨a, _, _, rfl, rfl, same_upd nn _ _ hx, small (by show 0 ≤ _; omega), app rfl u nn⟩⟩
    · subst e0
      obtain ⟨ys0, y, rfl, hy0, ⟨tl, rfl, htl⟩⟩ := paired_snoc B0 l hp
      have exl : atI (ys0 ++ [V.ref tl]) (-1) = some (.ref tl) := atI_last _ _
      have tr : (!(ys0 ++ [V.ref tl]).isEmpty) = true := by cases ys0 <;> rfl
      refine ⟨_, rfl, true, .inl ⟨_, .of hx, tr.symm⟩, iteT ?_⟩
      refine ⟨_, rfl, 1, rfl, a, _, -1, _, rfl, rfl, .of hx, exl, tl, _, rfl, .of htl, rfl, _, _, rfl, _, _, rfl, _, _, rfl, rfl, ?_⟩
      have ap2 : ¬ (l.1 + l.2.2 = x.1 ∧ l.2.1 + l.2.2 = x.2.1) → addB (B0 ++ [l]) x = (B0 ++ [l]) ++ [x] := by
        intro z
        unfold addB
        rw [List.getLast?_concat]
        exact if_neg z
      have lx2 : (ys0 ++ [V.ref tl]).length ≤ 900000 := by rw [lx]; exact l4
      refine ⟨_, rfl, _, rfl, _, _, rfl, rfl, _, rfl, rfl, _, rfl, ite2 (fun e1 => ?_) (fun e1 => ?_)⟩
      · have e1 : l.1 + l.2.2 = x.1 := V.int.inj (of_decide_eq_true e1)
        refine ⟨_, rfl, _, rfl, _, _, rfl, rfl, _, rfl, rfl, _, rfl, ite2 (fun e2 => ?_) (fun e2 => ?_)⟩
        · have e2 : l.2.1 + l.2.2 = x.2.1 := V.int.inj (of_decide_eq_true e2)
          have er : addB (B0 ++ [l]) x = B0 ++ [(l.1, l.2.1, l.2.2 + x.2.2)] := by
            unfold addB
            rw [List.getLast?_concat, List.dropLast_concat]
            exact if_pos ⟨e1, e2⟩
          refine ⟨_, rfl, _, rfl, _, rfl, _, rfl, _, _, rfl, rfl, (by show 3 ≤ sizeLine; decide), fun u nn => ⟨_, rfl, 1, rfl, a, _, -1, ys0.length, rfl, rfl, same_upd nn _ _ hx, ?_, ?_⟩⟩
          · rw [List.length_append]
            exact ixN_last
          · rw [set_last]
            have hx1 := same_upd (o := .tup [.int l.1, .int l.2.1, .int (l.2.2 + x.2.2)]) nn _ _ hx
            refine q _ ((Same.but (same_upd nn)).trans but_upd) ⟨_, upd_same, ?_⟩
            rw [er]
            exact Paired.app (bvs_grow hx1 (bvs_same (same_upd nn) hy0)) (.cons (BV.grow hx1 ⟨_, rfl, upd_same⟩) .nil)
        · have e2 : ¬ l.2.1 + l.2.2 = x.2.1 := fun z => e2 (decide_eq_true (by show V.int (l.2.1 + l.2.2) = V.int x.2.1; rw [z]))
          exact ⟨_, rfl, .inl ⟨rfl, _, SqL.of hx⟩, _, rfl, _, rfl, _, rfl, (by show 3 ≤ sizeLine; decide), fun u nn => ⟨a, _, _, rfl, rfl, same_upd nn _ _ hx, small (by omega), app (ap2 fun z => e2 z.2) u nn⟩⟩
      · have e1 : ¬ l.1 + l.2.2 = x.1 := fun z => e1 (decide_eq_true (by show V.int (l.1 + l.2.2) = V.int x.1; rw [z]))
        refine iteF ?_
        exact ⟨_, rfl, .inl ⟨rfl, _, SqL.of hx⟩, _, rfl, _, rfl, _, rfl, (by show 3 ≤ sizeLine; decide), fun u nn => ⟨a, _, _, rfl, rfl, same_upd nn _ _ hx, small (by omega), app (ap2 fun z => e1 z.1) u nn⟩⟩
/-! blocks_of: slots 0:runs 1:blocks 2:ranges 3:state 4:start 5:kind 6:count 7:leaving 8:first 9:second 10:size -/
abbrev s_blocks_of : Stmt := topS 50
theorem sc_blocks_of : FnScope ["runs", "blocks", "ranges", "state", "start", "kind", "count", "leaving", "first", "second", "size"] ["runs"] (defScope s_blocks_of) := ⟨rfl, rfl, rfl, by decide +kernel, rfl, by decide +kernel, by decide +kernel⟩
def sp_blocks_of : Sp := fun vs H Q _ => ∃ (a : Addr) (rs : List Run), vs = [.ref a] ∧ Runs H a rs ∧ rs.length ≤ 400 ∧ (∀ r ∈ rs, 1 ≤ r.2) ∧ ∀ H' p B, Same H H' → H p = none → Blks H' p B → B.length ≤ 160000 → PosB B → 2 * cntB B + numR (stR rs none) = lenR rs → Q (.ref p) H'
theorem ok_blocks_of (D : Df K mg "blocks_of" s_blocks_of) (G_leaving_number : Has P w K mg base 1 "leaving_number" ["state", "kind", "count"] sp_leaving_number) (G_blocks_of_run : Has P w K mg base 1 "blocks_of_run" ["ranges", "start", "leaving"] sp_blocks_of_run)
    (G_add_block : Has P w K mg base 1 "add_block" ["blocks", "first", "second", "count"] sp_add_block) (G_ranges_after_run : Has P w K mg base 2 "ranges_after_run" ["ranges", "start", "count", "leaving"] sp_ranges_after_run) (G_state_after_run : Has P w K mg base 2 "state_after_run" ["state", "kind", "count"] sp_state_after_run) :
    Has P w K mg base 3 "blocks_of" ["runs"] sp_blocks_of := by
  refine has_of D sc_blocks_of (fun _ _ _ _ _ _ us hl => match us, hl with | [_], _ => rfl) (fun vs H Q E h => ?_) (fun f cdv A outer s₀ H vs Q E hr h => ?_)
  · obtain ⟨a, R, rfl, _⟩ := h
    rfl
  · obtain ⟨a, rs, rfl, ⟨xs, hx, hpr⟩, l4, pos, q⟩ := h
    have lx : xs.length = rs.length := Paired.len hpr
    refine ⟨_, (pss_cons (ps_set (i := 1) sc_blocks_of.nd rfl (by first | exact Or.inl rfl | exact Or.inr rfl) (pe_lst pa_nil))
    (pss_cons (ps_set (i := 2) sc_blocks_of.nd rfl (by first | exact Or.inl rfl | exact Or.inr rfl) (pe_lst pa_nil))
    (pss_cons (ps_set (i := 3) sc_blocks_of.nd rfl (by first | exact Or.inl rfl | exact Or.inr rfl) pe_non)
    (pss_cons (ps_set (i := 4) sc_blocks_of.nd rfl (by first | exact Or.inl rfl | exact Or.inr rfl) pe_int)
    (pss_cons (ps_for PassesOwn.never rfl (pi_list (pv 0)) (pg_tup rfl (pgs_cons (pg_name (i := 5) sc_blocks_of.nd rfl (by first | exact Or.inl rfl | exact Or.inr rfl)) (pgs_cons (pg_name (i := 6) sc_blocks_of.nd rfl (by first | exact Or.inl rfl | exact Or.inr rfl)) pgs_nil)))
      (pss_cons (ps_set (i := 7) sc_blocks_of.nd rfl (by first | exact Or.inl rfl | exact Or.inr rfl) (pe_callH G_leaving_number (hr.mono (by omega)) (by rfl) (pa_cons (pv 3) (pa_cons (pv 5) (pa_cons (pv 6) pa_nil)))))
    (pss_cons (ps_for PassesOwn.never rfl (pi_list (pe_callH G_blocks_of_run (hr.mono (by omega)) (by rfl) (pa_cons (pv 2) (pa_cons (pv 4) (pa_cons (pv 7) pa_nil))))) (pg_tup rfl (pgs_cons (pg_name (i := 8) sc_blocks_of.nd rfl (by first | exact Or.inl rfl | exact Or.inr rfl)) (pgs_cons (pg_name (i := 9) sc_blocks_of.nd rfl (by first | exact Or.inl rfl | exact Or.inr rfl)) (pgs_cons (pg_name (i := 10) sc_blocks_of.nd rfl (by first | exact Or.inl rfl | exact Or.inr rfl)) pgs_nil))))
      (pss_one (ps_expr (pe_callH G_add_block (hr.mono (by omega)) (by rfl) (pa_cons (pv 1) (pa_cons (pv 8) (pa_cons (pv 9) (pa_cons (pv 10) pa_nil))))))))
    (pss_cons (ps_set (i := 2) sc_blocks_of.nd rfl (by first | exact Or.inl rfl | exact Or.inr rfl) (pe_callH G_ranges_after_run (hr.mono (by omega)) (by rfl) (pa_cons (pv 2) (pa_cons (pv 4) (pa_cons (pv 6) (pa_cons (pv 7) pa_nil))))))
    (pss_cons (ps_set (i := 3) sc_blocks_of.nd rfl (by first | exact Or.inl rfl | exact Or.inr rfl) (pe_callH G_state_after_run (hr.mono (by omega)) (by rfl) (pa_cons (pv 3) (pa_cons (pv 5) (pa_cons (pv 6) pa_nil)))))
    (pss_one (ps_aug (i := 4) sc_blocks_of.nd rfl (by first | exact Or.inl rfl | exact Or.inr rfl) (pv 6) ip_add)))))))
    (pss_one (ps_ret (pv 1)))))))), ?_⟩
    refine ⟨Nat.zero_le _, fun p np => ⟨Nat.zero_le _, fun e ne => ?_⟩⟩
    have sp := same_upd (o := .lst []) np
    have se := same_upd (o := .lst []) ne
    have ep : e ≠ p := fun z => by rw [z, upd_same] at ne; cases ne
    have neH : H e = none := sp.free ne
    have hp0 : (upd (upd H p (.lst [])) e (.lst [])) p = some (.lst []) := by rw [upd_ne ep.symm, upd_same]
    refine ⟨_, rfl, a, rfl, ⟨xs, .of (se _ _ (sp _ _ hx))⟩, for_list (K := K) (a := a) (xs := xs) (fun i σ H' => ∃ v b c y5 y6 y7 y8 y9 y10, ∃ (R : List Rg) (B : List Blk), b = lenR (rs.take i) ∧ σ = [some (.ref a), some (.ref p), some (.ref c), some v, some (.int b), y5, y6, y7, y8, y9, y10] ∧ Same H H' ∧ c ≠ p ∧ StV H' v (stR (rs.take i) none) ∧ PosO (stR (rs.take i) none) ∧ Rngs H' c R ∧ R.length ≤ i ∧ NE R ∧ wtR R = numR (stR (rs.take i) none) ∧ Blks H' p B ∧ B.length ≤ 400 * i ∧ PosB B ∧ 2 * cntB B + numR (stR (rs.take i) none) = lenR (rs.take i))
      ⟨.non, 0, e, none, none, none, none, none, none, [], [], rfl, rfl, sp.trans se, ep, rfl, (fun r hr => by cases hr), ⟨[], upd_same, .nil⟩, Nat.le_refl _, (fun p hp => by cases hp), rfl, ⟨[], hp0, .nil⟩, Nat.le_refl _, (fun p hp => by cases hp), rfl⟩ (fun i σ H' _ hP => ?_) (fun i x σ H4 ex hP => ?_) (fun σ H4 hP => ?_)⟩
    · obtain ⟨_, _, _, _, _, _, _, _, _, _, _, _, _, sm, _⟩ := hP
      exact .of (sm _ _ hx)
    · obtain ⟨v, b, c, y5, y6, y7, y8, y9, y10, R, B, rfl, rfl, sm, cp, hv, po, hR4, lR, neR, wR, hB4, lB, pB, eB⟩ := hP
      obtain ⟨r, er, hr1⟩ := Paired.at hpr ex
      obtain ⟨t, rfl, ht⟩ := RunV.same sm hr1
      have hi : i < xs.length := (List.getElem?_eq_some_iff.mp ex).1
      have c1 : 1 ≤ r.2 := pos r (List.mem_of_getElem? er)
      have el : lenR (rs.take (i + 1)) = lenR (rs.take i) + r.2 := by rw [take_snoc er, lenR_snoc]
      have es : stR (rs.take (i + 1)) none = stepR (stR (rs.take i) none) r.1 r.2 := by rw [take_snoc er, stR_snoc]
      rw [el, es]
      generalize lenR (rs.take i) = b at *
      generalize stR (rs.take i) none = st at *
      obtain ⟨m1, m2, m3, m4, m5⟩ := num_step (k := r.1) po c1
      refine ⟨t, _, rfl, .of ht, rfl, _, _, rfl, _, _, rfl, rfl, ?_⟩
      refine ⟨_, rfl, _, rfl, _, rfl, v, st, r.1, r.2, rfl, hv, ?_⟩
      generalize leavR st r.1 r.2 = n at *
      -- the blocks of the run
      refine ⟨_, rfl, _, rfl, _, rfl, c, R, b, n, rfl, hR4, by omega, fun H5 p5 s5 n5 h5 => ?_⟩
      have lbr := brR_len R b n
      obtain ⟨f1, f2⟩ := adds_facts (brR R b n) B pB (pos_br R b n)
      rw [cnt_br R b n neR m1 (by omega)] at f2
      have lab := addsB_len (brR R b n) B
      obtain ⟨zs, hz, hzp⟩ := h5
      have lz : zs.length = (brR R b n).length := Paired.len hzp
      have p5p : p5 ≠ p := by
        obtain ⟨_, hB, _⟩ := hB4
        exact (ne_of_none hB n5).symm
      have hR5 := hR4.same s5
      have hv5 := hv.same s5
      have hB5 := hB4.same s5
      refine ⟨p5, rfl, ⟨zs, .of hz⟩, for_list (K := K) (a := p5) (xs := zs) (fun j σ H' => ∃ y8 y9 y10, σ = [some (.ref a), some (.ref p), some (.ref c), some v, some (.int b), some (.str r.1), some (.int r.2), some (.int n), y8, y9, y10] ∧ But p H5 H' ∧ Blks H' p (addsB B ((brR R b n).take j)))
        ⟨_, _, _, rfl, But.refl, hB5⟩ (fun j σ H' _ hP => ?_) (fun j x σ H6 ex6 hP => ?_) (fun σ H6 hP => ?_)⟩
      · obtain ⟨_, _, _, _, bt, _⟩ := hP
        exact .of (bt _ _ p5p hz)
      · obtain ⟨y8, y9, y10, rfl, bt, hB6⟩ := hP
        obtain ⟨k, ek, hk⟩ := Paired.at hzp ex6
        obtain ⟨_, hB5x, _⟩ := id hB5
        obtain ⟨tk, rfl, htk⟩ := BV.but hB5x bt hk
        refine ⟨tk, _, rfl, .of htk, rfl, _, _, rfl, _, _, rfl, _, _, rfl, rfl, ?_⟩
        have la := addsB_len ((brR R b n).take j) B
        rw [List.length_take] at la
        refine ⟨_, rfl, _, rfl, _, rfl, _, rfl, p, _, k, rfl, hB6, by omega, fun H7 b7 h7 => ⟨_, _, _, rfl, bt.trans b7, ?_⟩⟩
        rw [take_snoc ek, addsB_snoc]
        exact h7
      · obtain ⟨y8, y9, y10, rfl, bt, hB6⟩ := hP
        rw [lz, List.take_length] at hB6
        obtain ⟨_, hB5x, _⟩ := id hB5
        have hR6 := hR5.butB hB5x cp bt
        have hv6 := hv5.butB hB5x bt
        have s6 : Same H H6 := Same.butB np (sm.trans s5) bt
        refine ⟨_, rfl, _, rfl, _, rfl, _, rfl, c, R, b, r.2, n, rfl, hR6, by omega, neR, m1, by omega, m2, fun H7 p7 R7 s7 n7 h7 l7 ne7 w7 => ?_⟩
        refine ⟨_, rfl, _, rfl, _, rfl, v, st, r.1, r.2, rfl, hv6.same s7, c1, fun H8 v8 s8 h8 => ?_⟩
        have p7p : p7 ≠ p := by
          obtain ⟨_, hB, _⟩ := hB6
          exact (ne_of_none hB n7).symm
        exact ⟨_, rfl, _, rfl, _, _, rfl, rfl, v8, _, p7, _, _, _, _, _, _, R7, _, rfl, rfl, s6.trans (s7.trans s8), p7p, h8, m5, h7.same s8, by omega, ne7, by rw [w7, m4]; omega, (hB6.same s7).same s8, by omega, f1, by rw [f2, m4]; omega⟩
    · obtain ⟨v, b, c, y5, y6, y7, y8, y9, y10, R, B, rfl, rfl, sm, cp, hv, po, hR4, lR, neR, wR, hB4, lB, pB, eB⟩ := hP
      rw [lx, List.take_length] at eB
      exact ⟨_, rfl, q H4 p B sm np hB4 (by omega) pB eB⟩
/-! pairs_in: slots 0:blocks 1:first 2:second 3:count -/
abbrev s_pairs_in : Stmt := topS 51
theorem sc_pairs_in : FnScope ["blocks", "first", "second", "count"] ["blocks"] (defScope s_pairs_in) := ⟨rfl, rfl, rfl, by decide +kernel, rfl, by decide +kernel, by decide +kernel⟩
def sp_pairs_in : Sp := fun vs H Q _ => ∃ (a : Addr) (B : List Blk), vs = [.ref a] ∧ Blks H a B ∧ B.length ≤ 900000 ∧ ∀ H', Same H H' → Q (.int (cntB B)) H'
theorem ok_pairs_in (D : Df K mg "pairs_in" s_pairs_in) (T : Tx mg) : Has P w K mg base 1 "pairs_in" ["blocks"] sp_pairs_in := by
  refine has_of D sc_pairs_in (fun _ _ _ _ _ _ us hl => match us, hl with | [_], _ => rfl) (fun vs H Q E h => ?_) (fun f cdv A outer s H vs Q E hr h => ?_)
  · obtain ⟨v, r, rfl, _⟩ := h
    rfl
  · obtain ⟨a, B, rfl, ⟨xs, hx, hp⟩, l4, q⟩ := h
    have lx : xs.length = B.length := Paired.len hp
    refine ⟨_, (pss_one (ps_ret (pe_callB (cr_sum rfl) (by rfl) T.n_sum (by decide +kernel) (pa_cons (pe_lc (own := [("first", 1), ("second", 2), ("count", 3)]) rfl sc_pairs_in.nd (pi_list (pv 0)) (blkOk_by (N := ["blocks", "first", "second", "count"]) (sc := defScope s_pairs_in) (by decide +kernel)) (fun _ _ _ _ _ => (pg_tupK (K := K) (n := 3) rfl rfl (pgs_cons (pg_name (i := 1) sc_pairs_in.nd rfl (by first | exact Or.inl rfl | exact Or.inr rfl)) (pgs_cons (pg_name (i := 2) sc_pairs_in.nd rfl (by first | exact Or.inl rfl | exact Or.inr rfl)) (pgs_cons (pg_name (i := 3) sc_pairs_in.nd rfl (by first | exact Or.inl rfl | exact Or.inr rfl)) pgs_nil))))) (fun _ _ _ _ _ => pts_nil) (fun _ _ _ _ _ => (pv 3))) pa_nil)))), ?_⟩
    refine ⟨_, rfl, a, rfl, ⟨xs, .of hx⟩, fun L nL => lc_list (K := K) (a := a) (xs := xs) (fun i H' => Same H H' ∧ H' L = some (.lst (((B.map (·.2.2)).take i).map V.int))) ⟨same_upd nL, upd_same⟩ (fun i H' _ p => .of (p.1 _ _ hx)) (fun i x H2 ex p => ?_) (fun H2 p => ?_)⟩
    · obtain ⟨sm, hL⟩ := p
      obtain ⟨r, er, hr1⟩ := Paired.at hp ex
      have hi : i < xs.length := (List.getElem?_eq_some_iff.mp ex).1
      obtain ⟨t, rfl, ht⟩ := BV.same sm hr1
      refine ⟨t, _, rfl, .of ht, rfl, _, _, rfl, _, _, rfl, _, _, rfl, rfl, rfl, yesT ⟨_, rfl, _, hL, ?_, same_grow nL sm, ?_⟩⟩
      · simp only [List.length_map, List.length_take]
        exact small (by omega)
      · rw [upd_same, take_snoc (x := r.2.2) (by rw [List.getElem?_map, er]; rfl), List.map_append]
        rfl
    · refine ⟨L, (B.map (fun r : Blk => r.2.2)), rfl, .of ?_, q H2 p.1⟩
      have := p.2
      rw [List.take_of_length_le (by rw [List.length_map]; omega)] at this
      exact this
/-! partner_in: slots 0:blocks 1:position 2:first 3:second 4:count -/
abbrev s_partner_in : Stmt := topS 52
theorem sc_partner_in : FnScope ["blocks", "position", "first", "second", "count"] ["blocks", "position"] (defScope s_partner_in) := ⟨rfl, rfl, rfl, by decide +kernel, rfl, by decide +kernel, by decide +kernel⟩
def sp_partner_in : Sp := fun vs H Q _ => ∃ (a : Addr) (B : List Blk) (m : Int), vs = [.ref a, .int m] ∧ Blks H a B ∧ Q (oI (pgR B m)) H
theorem ok_partner_in (D : Df K mg "partner_in" s_partner_in) : Has P w K mg base 1 "partner_in" ["blocks", "position"] sp_partner_in := by
  refine has_of D sc_partner_in (fun _ _ _ _ _ _ us hl => match us, hl with | [_, _], _ => rfl) (fun vs H Q E h => ?_) (fun f cdv A outer s₀ H vs Q E hr h => ?_)
  · obtain ⟨a, R, n, rfl, _⟩ := h
    rfl
  · obtain ⟨a, B, m, rfl, ⟨xs, hx, hpr⟩, q⟩ := h
    refine ⟨_, (pss_cons (ps_for PassesOwn.never rfl (pi_list (pv 0)) (pg_tup rfl (pgs_cons (pg_name (i := 2) sc_partner_in.nd rfl (by first | exact Or.inl rfl | exact Or.inr rfl)) (pgs_cons (pg_name (i := 3) sc_partner_in.nd rfl (by first | exact Or.inl rfl | exact Or.inr rfl)) (pgs_cons (pg_name (i := 4) sc_partner_in.nd rfl (by first | exact Or.inl rfl | exact Or.inr rfl)) pgs_nil))))
      (C8.pss_cut (ps_if (pt_chain op_le op_lt (pv 2) (pv 1) (pe_op op_add (pv 2) (pv 4))) (pss_one (ps_ret (pe_op op_sub (pe_op op_add (pv 3) (pv 1)) (pv 2)))) pss_nil)
    (pss_one (ps_if (pt_chain op_le op_lt (pv 3) (pv 1) (pe_op op_add (pv 3) (pv 4))) (pss_one (ps_ret (pe_op op_sub (pe_op op_add (pv 2) (pv 1)) (pv 3)))) pss_nil))))
    (pss_one (ps_ret pe_non))), ?_⟩
    have lx : xs.length = B.length := Paired.len hpr
    refine ⟨_, rfl, a, rfl, ⟨xs, .of hx⟩, for_list (K := K) (a := a) (xs := xs) (fun i σ H' => ∃ y3 y4 y5, σ = [some (.ref a), some (.int m), y3, y4, y5] ∧ H' = H ∧ pgR B m = pgR (B.drop i) m)
      ⟨none, none, none, rfl, rfl, rfl⟩ (fun i σ H' _ hP => ?_) (fun i x σ H4 ex hP => ?_) (fun σ H4 hP => ?_)⟩
    · obtain ⟨_, _, _, _, rfl, _⟩ := hP
      exact .of hx
    · obtain ⟨y3, y4, y5, rfl, rfl, eq⟩ := hP
      obtain ⟨k, ek, ⟨t, rfl, ht⟩⟩ := Paired.at hpr ex
      have ed : B.drop i = k :: B.drop (i + 1) := drop_at ek
      rw [ed] at eq
      refine ⟨t, _, rfl, .of ht, rfl, _, _, rfl, _, _, rfl, _, _, rfl, rfl, ?_⟩
      have done : ∀ z : Option Int, pgR B m = z → Q (oI z) H4 := fun z e => by
        rw [← e]
        exact q
      have e0 : pgR (k :: B.drop (i + 1)) m = if k.1 ≤ m ∧ m < k.1 + k.2.2 then some (k.2.1 + m - k.1) else if k.2.1 ≤ m ∧ m < k.2.1 + k.2.2 then some (k.1 + m - k.2.1) else pgR (B.drop (i + 1)) m := rfl
      refine ⟨fun σ' H' => σ' = [some (.ref a), some (.int m), some (.int k.1), some (.int k.2.1), some (.int k.2.2)] ∧ H' = H4 ∧ ¬ (k.1 ≤ m ∧ m < k.1 + k.2.2), ?_, fun σ' H6 hM => ?_⟩
      · by_cases c1 : k.1 ≤ m ∧ m < k.1 + k.2.2
        · rw [e0, if_pos c1] at eq
          refine ⟨_, rfl, _, rfl, _, _, rfl, rfl, _, rfl, iteP (decide_eq_true c1.1) ⟨_, rfl, _, rfl, _, _, rfl, rfl, _, _, rfl, rfl, _, rfl, iteP (decide_eq_true c1.2) ?_⟩⟩
          exact ⟨_, rfl, _, rfl, _, _, rfl, rfl, _, rfl, _, _, rfl, rfl, done _ eq⟩
        · by_cases c2 : k.1 ≤ m
          · exact ⟨_, rfl, _, rfl, _, _, rfl, rfl, _, rfl, iteP (decide_eq_true c2) ⟨_, rfl, _, rfl, _, _, rfl, rfl, _, _, rfl, rfl, _, rfl, iteN (decide_eq_false fun z => c1 ⟨c2, z⟩) ⟨rfl, rfl, c1⟩⟩⟩
          · exact ⟨_, rfl, _, rfl, _, _, rfl, rfl, _, rfl, iteN (decide_eq_false c2) ⟨_, rfl, iteF ⟨rfl, rfl, c1⟩⟩⟩
      · obtain ⟨rfl, rfl, c1⟩ := hM
        rw [e0, if_neg c1] at eq
        by_cases c1 : k.2.1 ≤ m ∧ m < k.2.1 + k.2.2
        · rw [if_pos c1] at eq
          refine ⟨_, rfl, _, rfl, _, _, rfl, rfl, _, rfl, iteP (decide_eq_true c1.1) ⟨_, rfl, _, rfl, _, _, rfl, rfl, _, _, rfl, rfl, _, rfl, iteP (decide_eq_true c1.2) ?_⟩⟩
          exact ⟨_, rfl, _, rfl, _, _, rfl, rfl, _, rfl, _, _, rfl, rfl, done _ eq⟩
        · rw [if_neg c1] at eq
          by_cases c2 : k.2.1 ≤ m
          · exact ⟨_, rfl, _, rfl, _, _, rfl, rfl, _, rfl, iteP (decide_eq_true c2) ⟨_, rfl, _, rfl, _, _, rfl, rfl, _, _, rfl, rfl, _, rfl, iteN (decide_eq_false fun z => c1 ⟨c2, z⟩) ⟨_, _, _, rfl, rfl, eq⟩⟩⟩
          · exact ⟨_, rfl, _, rfl, _, _, rfl, rfl, _, rfl, iteN (decide_eq_false c2) ⟨_, rfl, iteF ⟨_, _, _, rfl, rfl, eq⟩⟩⟩
    · obtain ⟨y3, y4, y5, rfl, rfl, eq⟩ := hP
      rw [lx, List.drop_length] at eq
      have := q
      rw [eq] at this
      exact this
end
end UP

set_option Elab.async false
set_option linter.all false
set_option maxRecDepth 100000
set_option maxHeartbeats 4000000
namespace UP
open PySem PySem.Spec PyProof.Rows L2
/-- a def whose last parameter has the default None, and that may raise -/
def HasXD (P : Program) (w : World) (K : PySem.W.Frag) (mg : Str → Option Value) (base : Heap) (k : Nat) (x : Str) (ps : List Str) (n : Nat) (sp : Sp) : Prop :=
  ∃ f fd, mg x = some (.ref f) ∧ PySem.W.keepIn K (.ref f) = true ∧ Binds K fd ps [] ∧ (∃ ds, Vals [.non] ds ∧ Binds K fd ps ds) ∧ FnOk P w K mg base (L2.CX P w) k f fd ps sp
theorem passX0 {X : Cx} {P : Program} {w : World} : Passes (L2.CX P w) X E0 := fun _ _ _ _ _ _ _ h => by
  obtain ⟨_, _, _, _, _, _, _, _, _, _, _, _, z⟩ := h
  exact z.elim
section
variable {P : Program} {w : World} {K : PySem.W.Frag} {mg : Str → Option Value} {base : Heap}
theorem HasXD.has {k n : Nat} {x : Str} {ps : List Str} {sp : Sp} (h : HasXD P w K mg base k x ps n sp) : HasX P w K mg base k x ps sp := by
  obtain ⟨f, fd, g, kp, b, _, F⟩ := h
  exact ⟨f, fd, g, kp, b, F⟩
theorem hasXD_of {x : Str} {st : Stmt} {ps N : List Str} {k n : Nat} {sp : Sp} (D : DfD K mg x st [.non]) (S : FnScope N ps (defScope st)) (hpn : ps.length = n + 1)
    (hb : ∀ (T : Addr) (kV doc pm : Value) (an : Option Addr) (cdv ct : Value) (us its : List Value), us.length = n + 1 → its.length = 1 →
      ∃ k, bindArgs (PySem.W.fnOf x x (defArgs st) (defBody st) (defScope st) (.ref T) kV doc pm an cdv ct) ⟨us, []⟩ = seqItems? (.ref T) >>= k ∧ k (some its.toArray) = pure (ps.zip us))
    (hb1 : ∀ (T : Addr) (kV doc pm : Value) (an : Option Addr) (cdv ct : Value) (us its : List Value), us.length = n → its.length = 1 →
      ∃ k, bindArgs (PySem.W.fnOf x x (defArgs st) (defBody st) (defScope st) (.ref T) kV doc pm an cdv ct) ⟨us, []⟩ = seqItems? (.ref T) >>= k ∧ k (some its.toArray) = pure (ps.zip (us ++ its)))
    (len : ∀ vs H Q E, sp vs H Q E → vs.length = ps.length)
    (body : ∀ (f : Addr) (cdv : Value) (A : Around) (outer : List Env) (s : Shared) (H : Hp) (vs : List V) (Q : VK) (E : XK), Room k (A.deeper (envOfC x (defScope st) s.heap.objs.size f cdv)) → sp vs H Q E →
      ∃ t, PSs (cxOf (L2.CX P w) P w K mg base N x (defScope st) f cdv A outer s H E) (defBody st) t ∧ t { nx := fun _ H' => Q .non H', rt := Q } (start N vs) H) :
    HasXD P w K mg base (k + 1) x ps n sp := by
  obtain ⟨f, fd, g, F⟩ := D
  have B0 : Binds K fd ps [] := by
    obtain ⟨ds, v, b⟩ := F.binds1 (n + 1) 1 (ps := ps) (by intro z; cases z) (by rw [hpn]; rfl) fun T kV doc pm an cdv ct us its h1 h2 => by
      obtain ⟨k, e1, e2⟩ := hb T kV doc pm an cdv ct us its h1 h2
      refine ⟨k, e1, ?_⟩
      have h3 : its.length ≤ 1 := Nat.le_of_eq h2
      rw [e2, List.drop_of_length_le h3, List.append_nil]
    cases v
    exact b
  have B1 : ∃ ds, Vals [V.non] ds ∧ Binds K fd ps ds := by
    obtain ⟨ds, v, b⟩ := F.binds1 n 0 (ps := ps) (by intro z; cases z) (by rw [hpn]; rfl) fun T kV doc pm an cdv ct us its h1 h2 => by
      obtain ⟨k, e1, e2⟩ := hb1 T kV doc pm an cdv ct us its h1 h2
      exact ⟨k, e1, by rw [e2, List.drop_zero]⟩
    exact ⟨ds, v, b⟩
  exact ⟨f, fd, g, F.kp, B0, B1, F.ok S len fun cdv A outer s H vs Q E hr h => body f cdv A outer s H vs Q E hr h⟩
end
section
variable {X : Cx}
/-- the default taken, nothing raised -/
theorem pe_callDH {k n : Nat} {x : Str} {ps : List Str} {sp : Sp} {p pos : Pos} {e : Expr} {es : List Expr} {t : TA} (G : HasXD X.prog X.w X.K X.mg X.base k x ps n sp) (hr : Room k X.A) (hg : Gl X x) (ha : PA X (e :: es) t)
    (hdb : (x == ("__debug__" : Str)) = false := by decide) (he : starEach (e :: es) X.env = (false, eval e X.env) :: starEach es X.env := by rfl) (hpl : (backTo pos (starEach es X.env)).any (·.1) = false := by rfl) :
    PE X (.Call (.Name x p) (e :: es) [] pos) (tCall sp [.non] E0 t) := by
  obtain ⟨f, fd, g, kp, _, ⟨ds, v, b⟩, F⟩ := G
  exact pe_call F hr hg g kp b v passX0 ha hdb he hpl
end
section
variable {P : Program} {w : World} {K : PySem.W.Frag} {mg : Str → Option Value} {base : Heap}
/-! check_position: slots 0:runs 1:position -/
abbrev s_check_position : Stmt := topS 33
theorem sc_check_position : FnScope ["runs", "position"] ["runs", "position"] (defScope s_check_position) := ⟨rfl, rfl, rfl, by decide +kernel, rfl, by decide +kernel, by decide +kernel⟩
def sp_check_position (C : Addr) : Sp := fun vs H Q E => ∃ (a : Addr) (rs : List Run) (v : V) (d : Dat), vs = [.ref a, v] ∧ Runs H a rs ∧ rs.length ≤ 1000 ∧ Rp H v d ∧ (d.inI 0 (lenR rs - 1) = true → ∀ H', Same H H' → Q .non H') ∧ (d.inI 0 (lenR rs - 1) = false → ∀ H', Same H H' → E (.ref C) none H')
theorem ok_check_position {C : Addr} (D : Df K mg "check_position" s_check_position) (X1 : Ex K mg "InvalidPosition" C) (G_is_within : Has P w K mg base 2 "is_within" ["value", "low", "high"] sp_is_within) (G_length_of : Has P w K mg base 1 "length_of" ["runs"] sp_length_of) : HasX P w K mg base 3 "check_position" ["runs", "position"] (sp_check_position C) := by
  refine hasX_of D sc_check_position (fun _ _ _ _ _ _ us hl => match us, hl with | [_, _], _ => rfl) (fun vs H Q E h => ?_) (fun f cdv A outer s₀ H vs Q E hr h => ?_)
  · obtain ⟨a, rs, _, _, rfl, _⟩ := h
    rfl
  · obtain ⟨a, rs, v, d, rfl, hR, l4, hv, q, qe⟩ := h
    refine ⟨_, (pss_one (ps_if (pt_not (pt_val (pe_callH G_is_within (hr.mono (by omega)) (by rfl) (pa_cons (pv 1) (pa_cons pe_int (pa_cons (pe_op op_sub (pe_callH G_length_of (hr.mono (by omega)) (by rfl) (pa_cons (pv 0) pa_nil)) pe_int) pa_nil)))))) (pss_one (ps_raise rfl (takes_of rfl rfl rfl rfl) (pmk_own PySem.F.excBase_ValueError X1.x X1.g X1.k (raises_own X1.b X1.t) (by exact rfl)))) pss_nil)), ?_⟩
    refine ⟨_, rfl, _, rfl, a, rs, rfl, hR, l4, fun H2 s2 => ⟨_, _, rfl, rfl, v, d, 0, _, rfl, hv.same s2, _, rfl, ?_⟩⟩
    by_cases c : d.inI 0 (lenR rs - 1) = true
    · exact iteN (by rw [c]; rfl) (q c _ s2)
    · have c : d.inI 0 (lenR rs - 1) = false := by simpa using c
      exact iteP (by rw [c]; rfl) (qe c _ s2)
/-! partner_of: slots 0:sequence 1:position 2:runs -/
abbrev s_partner_of : Stmt := topS 54
theorem sc_partner_of : FnScope ["sequence", "position", "runs"] ["sequence", "position"] (defScope s_partner_of) := ⟨rfl, rfl, rfl, by decide +kernel, rfl, by decide +kernel, by decide +kernel⟩
def sp_partner_of (CS CP : Addr) : Sp := fun vs H Q E => ∃ (a : V) (d : Dat) (u : V) (m : Dat), vs = [a, u] ∧ Rp H a d ∧ d.fits ∧ Rp H u m ∧
  (d.seq = true → m.inI 0 (lenR d.runs - 1) = true → ∀ H' v, Same H H' → Q v H') ∧ (d.seq = false → ∀ H', Same H H' → E (.ref CS) none H') ∧ (d.seq = true → m.inI 0 (lenR d.runs - 1) = false → ∀ H', Same H H' → E (.ref CP) none H')
theorem ok_partner_of {CS CP : Addr} (D : Df K mg "partner_of" s_partner_of) (G_checked_runs : HasX P w K mg base 5 "checked_runs" ["sequence"] (sp_checked_runs CS)) (G_check_position : HasX P w K mg base 3 "check_position" ["runs", "position"] (sp_check_position CP)) (G_blocks_of : Has P w K mg base 3 "blocks_of" ["runs"] sp_blocks_of) (G_partner_in : Has P w K mg base 1 "partner_in" ["blocks", "position"] sp_partner_in) :
    HasX P w K mg base 6 "partner_of" ["sequence", "position"] (sp_partner_of CS CP) := by
  refine hasX_of D sc_partner_of (fun _ _ _ _ _ _ us hl => match us, hl with | [_, _], _ => rfl) (fun vs H Q E h => ?_) (fun f cdv A outer s₀ H vs Q E hr h => ?_)
  · obtain ⟨a, rs, _, _, rfl, _⟩ := h
    rfl
  · obtain ⟨av, d, u, m, rfl, ha, fa, hu, q, q1, q2⟩ := h
    refine ⟨_, (pss_cons (ps_set (i := 2) sc_partner_of.nd rfl (by first | exact Or.inl rfl | exact Or.inr rfl) (pe_callXH G_checked_runs (takes_of rfl rfl rfl rfl) (hr.mono (by omega)) (by rfl) (pa_cons (pv 0) pa_nil)))
    (pss_cons (ps_expr (pe_callXH G_check_position (takes_of rfl rfl rfl rfl) (hr.mono (by omega)) (by rfl) (pa_cons (pv 2) (pa_cons (pv 1) pa_nil))))
    (pss_one (ps_ret (pe_callH G_partner_in (hr.mono (by omega)) (by rfl) (pa_cons (pe_callH G_blocks_of (hr.mono (by omega)) (by rfl) (pa_cons (pv 2) pa_nil)) (pa_cons (pv 1) pa_nil))))))), ?_⟩
    refine ⟨_, rfl, av, d, rfl, ha, fa, fun cs H1 p s1 np hp => ?_, fun cs H1 s1 => q1 cs H1 s1⟩
    have ok := Dat.ok ha cs
    have l4 : d.runs.length ≤ 1000 := by have := ok.1; omega
    refine ⟨_, rfl, _, rfl, p, d.runs, u, m, rfl, hp, l4, hu.same s1, fun cm H2 s2 => ?_, fun cm H2 s2 => q2 cs cm H2 (s1.trans s2)⟩
    have q9 := q cs cm
    obtain ⟨n, rfl, n0, n1⟩ := Dat.inI_int cm
    cases hu
    refine ⟨_, rfl, p, d.runs, rfl, hp.same s2, ok.1, SeqOk.pos ok, fun H3 p3 B s3 n3 h3 l3 pB eB => ?_⟩
    exact ⟨_, rfl, p3, B, n, rfl, h3, q9 _ _ (s1.trans (s2.trans s3))⟩
/-! pair_count: slots 0:sequence 1:moment 2:runs 3:waiting -/
abbrev s_pair_count : Stmt := topS 55
theorem sc_pair_count : FnScope ["sequence", "moment", "runs", "waiting"] ["sequence", "moment"] (defScope s_pair_count) := ⟨rfl, rfl, rfl, by decide +kernel, rfl, by decide +kernel, by decide +kernel⟩
def pcR (rs : List Run) (m : Int) : Int := (m - numR (stR (cutR 0 m 0 rs) none)) / 2
def Dat.mom (m : Dat) (rs : List Run) : Dat := match m with
  | .non => .int (lenR rs)
  | m => m
def sp_pair_count (CS CP : Addr) : Sp := fun vs H Q E => ∃ (a : V) (d : Dat) (u : V) (m : Dat), vs = [a, u] ∧ Rp H a d ∧ d.fits ∧ Rp H u m ∧
  (d.seq = true → ∀ n, m.mom d.runs = .int n → 0 ≤ n → n ≤ lenR d.runs → ∀ H', Same H H' → Q (.int (pcR d.runs n)) H') ∧ (d.seq = false → ∀ H', Same H H' → E (.ref CS) none H') ∧ (d.seq = true → (m.mom d.runs).inI 0 (lenR d.runs) = false → ∀ H', Same H H' → E (.ref CP) none H')
theorem ok_pair_count {CS CP : Addr} (D : DfD K mg "pair_count" s_pair_count [.non]) (G_checked_runs : HasX P w K mg base 5 "checked_runs" ["sequence"] (sp_checked_runs CS)) (G_length_of : Has P w K mg base 1 "length_of" ["runs"] sp_length_of) (G_check_moment : HasX P w K mg base 3 "check_moment" ["runs", "moment"] (sp_check_moment CP))
    (G_cut : Has P w K mg base 1 "cut" ["runs", "start", "length"] sp_cut) (G_state_after_runs : Has P w K mg base 3 "state_after_runs" ["runs", "state"] sp_state_after_runs) (G_waiting_number : Has P w K mg base 1 "waiting_number" ["state"] sp_waiting_number) :
    HasXD P w K mg base 6 "pair_count" ["sequence", "moment"] 1 (sp_pair_count CS CP) := by
  refine hasXD_of (n := 1) D sc_pair_count rfl (fun _ _ _ _ _ _ _ us its hl h1 => match us, hl, its, h1 with | [_, _], _, [_], _ => ⟨_, rfl, rfl⟩) (fun _ _ _ _ _ _ _ us its hl h1 => match us, hl, its, h1 with | [_], _, [_], _ => ⟨_, rfl, rfl⟩) (fun vs H Q E h => ?_) (fun f cdv A outer s₀ H vs Q E hr h => ?_)
  · obtain ⟨a, d, _, _, rfl, _⟩ := h
    rfl
  · obtain ⟨av, d, u, mv, rfl, ha, fa, hu, q, q1, q2⟩ := h
    refine ⟨_, (pss_cons (ps_set (i := 2) sc_pair_count.nd rfl (by first | exact Or.inl rfl | exact Or.inr rfl) (pe_callXH G_checked_runs (takes_of rfl rfl rfl rfl) (hr.mono (by omega)) (by rfl) (pa_cons (pv 0) pa_nil)))
    (C8.pss_cut (ps_if (pt_cmpR op_isN (pv 1) pe_non (nomark _)) (pss_one (ps_set (i := 1) sc_pair_count.nd rfl (by first | exact Or.inl rfl | exact Or.inr rfl) (pe_callH G_length_of (hr.mono (by omega)) (by rfl) (pa_cons (pv 2) pa_nil)))) pss_nil)
    (pss_cons (ps_expr (pe_callXH G_check_moment (takes_of rfl rfl rfl rfl) (hr.mono (by omega)) (by rfl) (pa_cons (pv 2) (pa_cons (pv 1) pa_nil))))
    (pss_cons (ps_set (i := 3) sc_pair_count.nd rfl (by first | exact Or.inl rfl | exact Or.inr rfl) (pe_callH G_waiting_number (hr.mono (by omega)) (by rfl) (pa_cons (pe_callH G_state_after_runs (hr.mono (by omega)) (by rfl) (pa_cons (pe_callH G_cut (hr.mono (by omega)) (by rfl) (pa_cons (pv 2) (pa_cons pe_int (pa_cons (pv 1) pa_nil)))) (pa_cons pe_non pa_nil))) pa_nil)))
    (pss_one (ps_ret (pe_op op_fdiv (pe_op op_sub (pv 1) (pv 3)) pe_int))))))), ?_⟩
    refine ⟨_, rfl, av, d, rfl, ha, fa, fun cs H1 p s1 np hp => ?_, fun cs H1 s1 => q1 cs H1 s1⟩
    have ok := Dat.ok ha cs
    have l4 : d.runs.length ≤ 1000 := by have := ok.1; omega
    refine ⟨fun σ' H' => ∃ u', σ' = [some av, some u', some (.ref p), none] ∧ Same H1 H' ∧ Rp H' u' (mv.mom d.runs), ?_, fun σ' H2 hM => ?_⟩
    · by_cases c : mv = .non
      · subst c
        cases hu
        exact ⟨_, rfl, rfl, _, rfl, iteP rfl ⟨_, rfl, p, d.runs, rfl, hp, l4, fun H2 s2 => ⟨_, rfl, s2, .int _⟩⟩⟩
      · have em : mv.mom d.runs = mv := by cases mv <;> first | rfl | exact absurd rfl c
        rw [em]
        have un : u ≠ .non := by
          intro z
          subst z
          cases hu
          exact c rfl
        exact ⟨_, rfl, rfl, _, rfl, iteN (decide_eq_false un) ⟨u, rfl, Same.refl _, hu.same s1⟩⟩
    · obtain ⟨u', rfl, s2, hu2⟩ := hM
      refine ⟨_, rfl, _, rfl, p, d.runs, u', _, rfl, hp.same s2, l4, hu2, fun cm H3 s3 => ?_, fun cm H3 s3 => q2 cs cm H3 (s1.trans (s2.trans s3))⟩
      obtain ⟨m, em, m0, m1⟩ := Dat.inI_int cm
      have q := q cs m em m0 m1
      rw [em] at hu2
      cases hu2
      refine ⟨_, rfl, _, rfl, p, d.runs, 0, m, rfl, (hp.same s2).same s3, l4, fun H4 p4 s4 n4 h4 => ?_⟩
      rw [Int.zero_add] at h4
      refine ⟨p4, _, .non, none, rfl, h4, cutR_pos, rfl, fun H5 v5 s5 h5 => ⟨v5, _, rfl, h5, ?_⟩⟩
      exact ⟨_, rfl, _, rfl, _, _, rfl, rfl, _, _, rfl, rfl, ⟨by decide, by decide⟩, q _ (s1.trans (s2.trans (s3.trans (s4.trans s5))))⟩
/-! pairs_of: slots 0:sequence -/
abbrev s_pairs_of : Stmt := topS 56
theorem sc_pairs_of : FnScope ["sequence"] ["sequence"] (defScope s_pairs_of) := ⟨rfl, rfl, rfl, by decide +kernel, rfl, by decide +kernel, by decide +kernel⟩
def sp_pairs_of (CS : Addr) : Sp := fun vs H Q E => ∃ (av : V) (d : Dat), vs = [av] ∧ Rp H av d ∧ d.fits ∧ (d.seq = true → ∀ H' v, Same H H' → Q v H') ∧ (d.seq = false → ∀ H', Same H H' → E (.ref CS) none H')
theorem ok_pairs_of {CS : Addr} (D : Df K mg "pairs_of" s_pairs_of) (G_checked_runs : HasX P w K mg base 5 "checked_runs" ["sequence"] (sp_checked_runs CS)) (G_blocks_of : Has P w K mg base 3 "blocks_of" ["runs"] sp_blocks_of) : HasX P w K mg base 6 "pairs_of" ["sequence"] (sp_pairs_of CS) := by
  refine hasX_of D sc_pairs_of (fun _ _ _ _ _ _ us hl => match us, hl with | [_], _ => rfl) (fun vs H Q E h => ?_) (fun f cdv A outer s H vs Q E hr h => ?_)
  · obtain ⟨v, r, rfl, _⟩ := h
    rfl
  · obtain ⟨av, d, rfl, ha, fa, q, q1⟩ := h
    refine ⟨_, (pss_one (ps_ret (pe_callH G_blocks_of (hr.mono (by omega)) (by rfl) (pa_cons (pe_callXH G_checked_runs (takes_of rfl rfl rfl rfl) (hr.mono (by omega)) (by rfl) (pa_cons (pv 0) pa_nil)) pa_nil)))), ?_⟩
    refine ⟨_, rfl, av, d, rfl, ha, fa, fun cs H1 p s1 np hp => ?_, fun cs H1 s1 => q1 cs H1 s1⟩
    have ok := Dat.ok ha cs
    exact ⟨p, d.runs, rfl, hp, ok.1, SeqOk.pos ok, fun H3 p3 B s3 n3 h3 l3 pB eB => q cs _ _ (s1.trans s3)⟩
/-! nth_pair: slots 0:sequence 1:index 2:blocks 3:at 4:first 5:second 6:count -/
abbrev s_nth_pair : Stmt := topS 57
theorem sc_nth_pair : FnScope ["sequence", "index", "blocks", "at", "first", "second", "count"] ["sequence", "index"] (defScope s_nth_pair) := ⟨rfl, rfl, rfl, by decide +kernel, rfl, by decide +kernel, by decide +kernel⟩
/-- the number of pairs -/
def pnR (rs : List Run) : Int := (lenR rs - numR (stR rs none)) / 2
def sp_nth_pair (CS CN : Addr) : Sp := fun vs H Q E => ∃ (av : V) (d : Dat) (u : V) (m : Dat), vs = [av, u] ∧ Rp H av d ∧ d.fits ∧ Rp H u m ∧ (d.seq = true → m.inI 0 (pnR d.runs - 1) = true → ∀ H' v, Same H H' → Q v H') ∧ (d.seq = false → ∀ H', Same H H' → E (.ref CS) none H') ∧ (d.seq = true → m.inI 0 (pnR d.runs - 1) = false → ∀ H', Same H H' → E (.ref CN) none H')
theorem ok_nth_pair {CS CN : Addr} (D : Df K mg "nth_pair" s_nth_pair) (X1 : Ex K mg "InvalidNumber" CN) (G_checked_runs : HasX P w K mg base 5 "checked_runs" ["sequence"] (sp_checked_runs CS)) (G_blocks_of : Has P w K mg base 3 "blocks_of" ["runs"] sp_blocks_of) (G_pairs_in : Has P w K mg base 1 "pairs_in" ["blocks"] sp_pairs_in)
    (G_is_within : Has P w K mg base 2 "is_within" ["value", "low", "high"] sp_is_within) : HasX P w K mg base 6 "nth_pair" ["sequence", "index"] (sp_nth_pair CS CN) := by
  refine hasX_of D sc_nth_pair (fun _ _ _ _ _ _ us hl => match us, hl with | [_, _], _ => rfl) (fun vs H Q E h => ?_) (fun f cdv A outer s H vs Q E hr h => ?_)
  · obtain ⟨v, r, _, _, rfl, _⟩ := h
    rfl
  · obtain ⟨av, d, u, m, rfl, ha, fa, hu, q, q1, q2⟩ := h
    refine ⟨_, (pss_cons (ps_set (i := 2) sc_nth_pair.nd rfl (by first | exact Or.inl rfl | exact Or.inr rfl) (pe_callH G_blocks_of (hr.mono (by omega)) (by rfl) (pa_cons (pe_callXH G_checked_runs (takes_of rfl rfl rfl rfl) (hr.mono (by omega)) (by rfl) (pa_cons (pv 0) pa_nil)) pa_nil)))
    (pss_cons (ps_if (pt_not (pt_val (pe_callH G_is_within (hr.mono (by omega)) (by rfl) (pa_cons (pv 1) (pa_cons pe_int (pa_cons (pe_op op_sub (pe_callH G_pairs_in (hr.mono (by omega)) (by rfl) (pa_cons (pv 2) pa_nil)) pe_int) pa_nil)))))) (pss_one (ps_raise rfl (takes_of rfl rfl rfl rfl) (pmk_own PySem.F.excBase_ValueError X1.x X1.g X1.k (raises_own X1.b X1.t) (by exact rfl)))) pss_nil)
    (pss_cons (ps_set (i := 3) sc_nth_pair.nd rfl (by first | exact Or.inl rfl | exact Or.inr rfl) pe_int)
    (pss_cons (ps_while (passes_of rfl) (pt_cmpR op_ge (pv 1) (pe_ix ix_tup (pe_ix ix_list (pv 2) (pv 3) (fun _ _ => rfl)) pe_int (fun _ _ => rfl)) (nomark _))
      (pss_cons (ps_aug (i := 1) sc_nth_pair.nd rfl (by first | exact Or.inl rfl | exact Or.inr rfl) (pe_ix ix_tup (pe_ix ix_list (pv 2) (pv 3) (fun _ _ => rfl)) pe_int (fun _ _ => rfl)) ip_sub)
    (pss_one (ps_aug (i := 3) sc_nth_pair.nd rfl (by first | exact Or.inl rfl | exact Or.inr rfl) pe_int ip_add))))
    (pss_cons (ps_asg (pe_ix ix_list (pv 2) (pv 3) (fun _ _ => rfl)) (pg_tup rfl (pgs_cons (pg_name (i := 4) sc_nth_pair.nd rfl (by first | exact Or.inl rfl | exact Or.inr rfl)) (pgs_cons (pg_name (i := 5) sc_nth_pair.nd rfl (by first | exact Or.inl rfl | exact Or.inr rfl)) (pgs_cons (pg_name (i := 6) sc_nth_pair.nd rfl (by first | exact Or.inl rfl | exact Or.inr rfl)) pgs_nil)))))
    (pss_one (ps_ret (pe_tup (pa_cons (pe_op op_add (pv 4) (pv 1)) (pa_cons (pe_op op_add (pv 5) (pv 1)) pa_nil)))))))))), ?_⟩
    refine ⟨_, rfl, av, d, rfl, ha, fa, fun cs H1 p s1 np hp => ?_, fun cs H1 s1 => q1 cs H1 s1⟩
    have ok := Dat.ok ha cs
    refine ⟨p, d.runs, rfl, hp, ok.1, SeqOk.pos ok, fun H2 p2 B s2 n2 h2 lb wb eB => ?_⟩
    have ec : pnR d.runs = cntB B := by
      unfold pnR
      omega
    rw [ec] at q q2
    refine ⟨_, rfl, _, rfl, p2, B, rfl, h2, by omega, fun H3 s3 => ⟨_, _, rfl, rfl, u, m, 0, _, rfl, (hu.same s1).same (s2.trans s3), _, rfl, ?_⟩⟩
    have sA := s1.trans (s2.trans s3)
    by_cases c : m.inI 0 (cntB B - 1) = true
    case neg =>
      have c : m.inI 0 (cntB B - 1) = false := by simpa using c
      exact iteP (by rw [c]; rfl) (q2 cs c _ sA)
    refine iteN (by rw [c]; rfl) ?_
    have q9 := q cs c
    obtain ⟨k, rfl, k0, k1⟩ := Dat.inI_int c
    cases hu
    obtain ⟨xs, hx, hpr⟩ := h2.same s3
    have lx : xs.length = B.length := Paired.len hpr
    -- the loop
    refine ⟨fun m σ H' => ∃ (j : Nat) (n : Int), m = B.length - j ∧ σ = [some av, some (.int n), some (.ref p2), some (.int (j : Int)), none, none, none] ∧ H' = H3 ∧ 0 ≤ n ∧ n < cntB (B.drop j), ⟨_, 0, k, rfl, rfl, rfl, k0, by show k < cntB B; omega⟩, fun m σ H' hP => ?_⟩
    obtain ⟨j, n, rfl, rfl, rfl, n0, hn⟩ := hP
    have hj : j < B.length := by
      rcases Nat.lt_or_ge j B.length with z | z
      · exact z
      · rw [List.drop_of_length_le z] at hn
        have hn : n < 0 := hn
        omega
    obtain ⟨b, eb⟩ : ∃ b, B[j]? = some b := ⟨_, List.getElem?_eq_getElem hj⟩
    obtain ⟨x, ex, ⟨t, rfl, ht⟩⟩ := Paired.at' hpr eb
    rw [drop_at eb, cntB_cons] at hn
    have hb : 0 < b.2.2 := wb b (List.mem_of_getElem? eb)
    have at2 : atI [V.int b.1, V.int b.2.1, V.int b.2.2] 2 = some (V.int b.2.2) := rfl
    refine ⟨_, rfl, _, rfl, _, rfl, p2, xs, _, _, rfl, rfl, .of hx, atI_nat ex, t, _, 2, _, rfl, rfl, .of ht, at2, _, _, rfl, rfl, _, rfl, ?_⟩
    by_cases c : b.2.2 ≤ n
    · refine iteP (decide_eq_true c) ⟨fun σ' H5 => ∃ n' : Int, σ' = [some av, some (.int n'), some (.ref p2), some (.int ((j + 1 : Nat) : Int)), none, none, none] ∧ H5 = H' ∧ 0 ≤ n' ∧ n' < cntB (B.drop (j + 1)), fun σ' H5 z => ?_, ?_⟩
      · obtain ⟨n', e1, e2, e3, e4⟩ := z
        exact ⟨_, by omega, j + 1, n', rfl, e1, e2, e3, e4⟩
      · exact ⟨_, rfl, _, rfl, _, rfl, p2, xs, _, _, rfl, rfl, .of hx, atI_nat ex, t, _, 2, _, rfl, rfl, .of ht, at2, _, _, rfl, rfl, _, rfl, _, _, rfl, rfl, n - b.2.2, rfl, rfl, by omega, by omega⟩
    · refine iteN (decide_eq_false c) ?_
      refine ⟨_, rfl, _, rfl, p2, xs, _, _, rfl, rfl, .of hx, atI_nat ex, t, _, rfl, .of ht, rfl, _, _, rfl, _, _, rfl, _, _, rfl, rfl, ?_⟩
      exact ⟨_, rfl, _, rfl, _, _, rfl, rfl, _, rfl, _, rfl, _, _, rfl, rfl, (by show 2 ≤ sizeLine; decide), fun u nn => q9 _ _ (sA.trans (same_upd nn))⟩
/-! longest_wait: slots 0:sequence 1:longest 2:first 3:second 4:count -/
abbrev s_longest_wait : Stmt := topS 58
theorem sc_longest_wait : FnScope ["sequence", "longest", "first", "second", "count"] ["sequence"] (defScope s_longest_wait) := ⟨rfl, rfl, rfl, by decide +kernel, rfl, by decide +kernel, by decide +kernel⟩
def sp_longest_wait (CS : Addr) : Sp := fun vs H Q E => ∃ (av : V) (d : Dat), vs = [av] ∧ Rp H av d ∧ d.fits ∧ (d.seq = true → ∀ H' v, Same H H' → Q v H') ∧ (d.seq = false → ∀ H', Same H H' → E (.ref CS) none H')
theorem ok_longest_wait {CS : Addr} (D : Df K mg "longest_wait" s_longest_wait) (G_checked_runs : HasX P w K mg base 5 "checked_runs" ["sequence"] (sp_checked_runs CS)) (G_blocks_of : Has P w K mg base 3 "blocks_of" ["runs"] sp_blocks_of) : HasX P w K mg base 6 "longest_wait" ["sequence"] (sp_longest_wait CS) := by
  refine hasX_of D sc_longest_wait (fun _ _ _ _ _ _ us hl => match us, hl with | [_], _ => rfl) (fun vs H Q E h => ?_) (fun f cdv A outer s H vs Q E hr h => ?_)
  · obtain ⟨v, r, rfl, _⟩ := h
    rfl
  · obtain ⟨av, d, rfl, ha, fa, q, q1⟩ := h
    refine ⟨_, (pss_cons (ps_set (i := 1) sc_longest_wait.nd rfl (by first | exact Or.inl rfl | exact Or.inr rfl) pe_non)
    (pss_cons (ps_for (passes_of rfl) rfl (pi_list (pe_callH G_blocks_of (hr.mono (by omega)) (by rfl) (pa_cons (pe_callXH G_checked_runs (takes_of rfl rfl rfl rfl) (hr.mono (by omega)) (by rfl) (pa_cons (pv 0) pa_nil)) pa_nil))) (pg_tup rfl (pgs_cons (pg_name (i := 2) sc_longest_wait.nd rfl (by first | exact Or.inl rfl | exact Or.inr rfl)) (pgs_cons (pg_name (i := 3) sc_longest_wait.nd rfl (by first | exact Or.inl rfl | exact Or.inr rfl)) (pgs_cons (pg_name (i := 4) sc_longest_wait.nd rfl (by first | exact Or.inl rfl | exact Or.inr rfl)) pgs_nil))))
      (pss_one (ps_if (PW.pt (pw_or (pt_cmpR op_isN (pv 1) pe_non (nomark _)) (pw_or1 (pt_cmpR op_gt (pe_op op_sub (pv 3) (pv 2)) (pe_op op_sub (pe_ix ix_tup (pv 1) pe_int (fun _ _ => rfl)) (pe_ix ix_tup (pv 1) pe_int (fun _ _ => rfl))) (nomark _))))) (pss_one (ps_set (i := 1) sc_longest_wait.nd rfl (by first | exact Or.inl rfl | exact Or.inr rfl) (pe_tup (pa_cons (pv 2) (pa_cons (pv 3) pa_nil))))) pss_nil)))
    (pss_one (ps_ret (pv 1))))), ?_⟩
    refine ⟨_, rfl, av, d, rfl, ha, fa, fun cs H1 p s1 np hp => ?_, fun cs H1 s1 => q1 cs H1 s1⟩
    have ok := Dat.ok ha cs
    refine ⟨p, d.runs, rfl, hp, ok.1, SeqOk.pos ok, fun H2 p2 B s2 n2 h2 lb wb eB => ?_⟩
    obtain ⟨xs, hx, hpr⟩ := h2
    refine ⟨p2, rfl, ⟨xs, .of hx⟩, for_list (K := K) (a := p2) (xs := xs) (fun i σ H' => ∃ v y2 y3 y4, ∃ l : Option Rg, σ = [some av, some v, y2, y3, y4] ∧ Same H2 H' ∧ (match l with | none => v = V.non | some r => PV H' v r)) ⟨.non, none, none, none, none, rfl, Same.refl _, rfl⟩ (fun i σ H' _ hP => ?_) (fun i x σ H3 ex hP => ?_) (fun σ H3 hP => ?_)⟩
    · obtain ⟨_, _, _, _, _, _, sm, _⟩ := hP
      exact .of (sm _ _ hx)
    · obtain ⟨v, y2, y3, y4, l, rfl, sm, hv⟩ := hP
      obtain ⟨b, eb, hb⟩ := Paired.at hpr ex
      obtain ⟨t, rfl, ht⟩ := BV.same sm hb
      refine ⟨t, _, rfl, .of ht, rfl, _, _, rfl, _, _, rfl, _, _, rfl, rfl, ?_⟩
      cases l with
      | none =>
        cases hv
        exact ⟨_, rfl, rfl, _, rfl, iteP rfl ⟨_, rfl, _, rfl, (by show 2 ≤ sizeLine; decide), fun u nu => ⟨_, _, _, _, some (b.1, b.2.1), rfl, sm.trans (same_upd nu), ⟨u, rfl, upd_same⟩⟩⟩⟩
      | some pr =>
        obtain ⟨tp, rfl, htp⟩ := hv
        refine ⟨_, rfl, rfl, _, rfl, iteN rfl ⟨_, rfl, _, rfl, _, _, rfl, rfl, _, rfl, tp, _, 1, _, rfl, rfl, .of htp, at1, _, rfl, tp, _, 0, _, rfl, rfl, .of htp, at0, _, _, rfl, rfl, _, _, rfl, rfl, _, rfl, ?_⟩⟩
        by_cases c : pr.2 - pr.1 < b.2.1 - b.1
        · exact iteP (decide_eq_true c) ⟨_, rfl, _, rfl, (by show 2 ≤ sizeLine; decide), fun u nu => ⟨_, _, _, _, some (b.1, b.2.1), rfl, sm.trans (same_upd nu), ⟨u, rfl, upd_same⟩⟩⟩
        · exact iteN (decide_eq_false c) ⟨_, _, _, _, some pr, rfl, sm, ⟨tp, rfl, htp⟩⟩
    · obtain ⟨v, y2, y3, y4, l, rfl, sm, hv⟩ := hP
      exact ⟨_, rfl, q cs _ _ (s1.trans (s2.trans sm))⟩
end
end UP

set_option Elab.async false
set_option linter.all false
set_option maxRecDepth 100000
set_option maxHeartbeats 4000000
namespace UP
open PySem PySem.Spec PyProof.Rows L2
section
variable {P : Program} {w : World} {K : PySem.W.Frag} {mg : Str → Option Value} {base : Heap}
/-! is_pair: slots 0:value -/
abbrev s_is_pair : Stmt := topS 53
theorem sc_is_pair : FnScope ["value"] ["value"] (defScope s_is_pair) := ⟨rfl, rfl, rfl, by decide +kernel, rfl, by decide +kernel, by decide +kernel⟩
def sp_is_pair : Sp := fun vs H Q _ => ∃ (v : V) (d : Dat), vs = [v] ∧ Rp H v d ∧ d.couple = false ∧ ∀ H', Same H H' → Q (.bl false) H'
theorem ok_is_pair (D : Df K mg "is_pair" s_is_pair) (G_is_couple : Has P w K mg base 1 "is_couple" ["value"] sp_is_couple) (G_is_whole : Has P w K mg base 1 "is_whole" ["value"] sp_is_whole) : Has P w K mg base 2 "is_pair" ["value"] sp_is_pair := by
  refine has_of D sc_is_pair (fun _ _ _ _ _ _ us hl => match us, hl with | [_], _ => rfl) (fun vs H Q E h => ?_) (fun f cdv A outer s H vs Q E hr h => ?_)
  · obtain ⟨v, r, rfl, _⟩ := h
    rfl
  · obtain ⟨v, d, rfl, hv, dc, q⟩ := h
    refine ⟨_, (pss_one (ps_ret (pe_and (pe_callH G_is_couple (hr.mono (by omega)) (by rfl) (pa_cons (pv 0) pa_nil)) (pe_and (pe_callH G_is_whole (hr.mono (by omega)) (by rfl) (pa_cons (pe_ix ix_seq (pv 0) pe_int (fun _ _ => rfl)) pa_nil)) (pe_one (pe_callH G_is_whole (hr.mono (by omega)) (by rfl) (pa_cons (pe_ix ix_seq (pv 0) pe_int (fun _ _ => rfl)) pa_nil))))))), ?_⟩
    refine ⟨_, rfl, v, d, rfl, hv, fun H1 s1 => ⟨d.couple, rfl, ?_⟩⟩
    rw [dc]
    exact iteF (q _ s1)
/-- no list of pairs -/
def Dat.noPr (d : Dat) : Prop := d.parts = none ∨ ∃ l, d = .lst l ∧ l ≠ [] ∧ l.length ≤ 400 ∧ ∀ x ∈ l, x.couple = false
theorem all_repF {n : Nat} : (List.replicate (n + 1) false).all id = false := by
  rw [List.replicate_succ]
  rfl
/-! is_pairing: slots 0:sequence 1:value 2:blocks 3:pairs 4:at 5:first 6:second 7:count 8:pair -/
abbrev s_is_pairing : Stmt := topS 59
theorem sc_is_pairing : FnScope ["sequence", "value", "blocks", "pairs", "at", "first", "second", "count", "pair"] ["sequence", "value"] (defScope s_is_pairing) := ⟨rfl, rfl, rfl, by decide +kernel, rfl, by decide +kernel, by decide +kernel⟩
def sp_is_pairing (CS : Addr) : Sp := fun vs H Q E => ∃ (av : V) (d : Dat) (u : V) (e : Dat), vs = [av, u] ∧ Rp H av d ∧ d.fits ∧ Rp H u e ∧ e.noPr ∧ (d.seq = true → ∀ H' v, Same H H' → Q v H') ∧ (d.seq = false → ∀ H', Same H H' → E (.ref CS) none H')
theorem ok_is_pairing {CS : Addr} (D : Df K mg "is_pairing" s_is_pairing) (T : Tx mg) (G_checked_runs : HasX P w K mg base 5 "checked_runs" ["sequence"] (sp_checked_runs CS)) (G_blocks_of : Has P w K mg base 3 "blocks_of" ["runs"] sp_blocks_of) (G_pairs_in : Has P w K mg base 1 "pairs_in" ["blocks"] sp_pairs_in)
    (G_is_listed : Has P w K mg base 1 "is_listed" ["value", "most"] sp_is_listed) (G_is_pair : Has P w K mg base 2 "is_pair" ["value"] sp_is_pair) : HasX P w K mg base 6 "is_pairing" ["sequence", "value"] (sp_is_pairing CS) := by
  refine hasX_of D sc_is_pairing (fun _ _ _ _ _ _ us hl => match us, hl with | [_, _], _ => rfl) (fun vs H Q E h => ?_) (fun f cdv A outer s H vs Q E hr h => ?_)
  · obtain ⟨v, r, _, _, rfl, _⟩ := h
    rfl
  · obtain ⟨av, d, u, e, rfl, ha, fa, hu, np, q, q1⟩ := h
    refine ⟨_, (pss_cons (ps_set (i := 2) sc_is_pairing.nd rfl (by first | exact Or.inl rfl | exact Or.inr rfl) (pe_callH G_blocks_of (hr.mono (by omega)) (by rfl) (pa_cons (pe_callXH G_checked_runs (takes_of rfl rfl rfl rfl) (hr.mono (by omega)) (by rfl) (pa_cons (pv 0) pa_nil)) pa_nil)))
    (pss_cons (ps_if (PW.pt (pw_or (pt_cmpR op_gt (pe_callH G_pairs_in (hr.mono (by omega)) (by rfl) (pa_cons (pv 2) pa_nil)) (pe_glI T.c_MAX_PAIRS (by rfl)) (nomark _)) (pw_or (pt_not (pt_val (pe_callH G_is_listed (hr.mono (by omega)) (by rfl) (pa_cons (pv 1) (pa_cons (pe_glI T.c_MAX_PAIRS (by rfl)) pa_nil))))) (pw_or1 (pt_not (pt_val (pe_callB (cr_all rfl) (by rfl) T.n_all (by decide +kernel) (pa_cons (pe_lc (own := [("pair", 8)]) rfl sc_is_pairing.nd (pi_list (pv 1)) (blkOk_by (N := ["sequence", "value", "blocks", "pairs", "at", "first", "second", "count", "pair"]) (sc := defScope s_is_pairing) (by decide +kernel)) (fun _ _ _ _ _ => (pg_name (i := 8) sc_is_pairing.nd rfl (by first | exact Or.inl rfl | exact Or.inr rfl))) (fun _ _ _ _ _ => pts_nil) (fun _ _ _ _ _ => (pe_callH G_is_pair (hr.mono (by omega)) (by rfl) (pa_cons (pv 8) pa_nil)))) pa_nil)))))))) (pss_one (ps_ret pe_bl)) pss_nil)
    (pss_cons (ps_setLc2 (i := 3) (own := [("first", 5), ("second", 6), ("count", 7), ("at", 4)]) (vs1 := [4]) rfl sc_is_pairing.nd rfl rfl (sw_true rfl rfl rfl (by decide +kernel)) (pi_list (pv 2)) (blkOk_by (N := ["sequence", "value", "blocks", "pairs", "at", "first", "second", "count", "pair"]) (sc := defScope s_is_pairing) (by decide +kernel)) (by decide) (fun _ _ _ _ _ => (pg_tupK (K := K) (n := 3) rfl rfl (pgs_cons (pg_name (i := 5) sc_is_pairing.nd rfl (by first | exact Or.inl rfl | exact Or.inr rfl)) (pgs_cons (pg_name (i := 6) sc_is_pairing.nd rfl (by first | exact Or.inl rfl | exact Or.inr rfl)) (pgs_cons (pg_name (i := 7) sc_is_pairing.nd rfl (by first | exact Or.inl rfl | exact Or.inr rfl)) pgs_nil))))) (fun _ _ _ _ _ => pts_nil) (fun _ _ _ _ _ => (pi_range1 (by rfl) T.n_range (pa_cons (pv 7) pa_nil))) (fun _ _ _ _ _ => (pg_name (i := 4) sc_is_pairing.nd rfl (by first | exact Or.inl rfl | exact Or.inr rfl))) (fun _ _ _ _ _ => pts_nil) (fun _ _ _ _ _ => (pe_tup (pa_cons (pe_op op_add (pv 5) (pv 4)) (pa_cons (pe_op op_add (pv 6) (pv 4)) pa_nil)))))
    (pss_one (ps_ret (pe_cmpR (op_eqD hr.units) (pe_lc (own := [("pair", 8)]) rfl sc_is_pairing.nd (pi_list (pv 1)) (blkOk_by (N := ["sequence", "value", "blocks", "pairs", "at", "first", "second", "count", "pair"]) (sc := defScope s_is_pairing) (by decide +kernel)) (fun _ _ _ _ _ => (pg_name (i := 8) sc_is_pairing.nd rfl (by first | exact Or.inl rfl | exact Or.inr rfl))) (fun _ _ _ _ _ => pts_nil) (fun _ _ _ _ _ => (pe_tup (pa_cons (pe_ix (ix_tupK (K := K) rfl) (pv 8) pe_int (fun _ _ => rfl)) (pa_cons (pe_ix (ix_tupK (K := K) rfl) (pv 8) pe_int (fun _ _ => rfl)) pa_nil))))) (pv 3) (nomark _))))))), ?_⟩
    refine ⟨_, rfl, av, d, rfl, ha, fa, fun cs H1 p s1 _ hp => ?_, fun cs H1 s1 => q1 cs H1 s1⟩
    have ok := Dat.ok ha cs
    have q := q cs
    refine ⟨p, d.runs, rfl, hp, ok.1, SeqOk.pos ok, fun H2 p2 B s2 n2 h2 lb wb eB => ?_⟩
    refine ⟨_, rfl, p2, B, rfl, h2, by omega, fun H3 s3 => ⟨_, _, rfl, rfl, _, rfl, ?_⟩⟩
    have sA := s1.trans (s2.trans s3)
    by_cases c : 400 < cntB B
    · exact iteP (decide_eq_true c) (q _ _ sA)
    refine iteN (decide_eq_false c) ?_
    refine ⟨_, rfl, u, e, 400, rfl, hu.same sA, fun H4 s4 => ⟨_, rfl, ?_⟩⟩
    rcases np with np | ⟨l, rfl, l0, l1, l2⟩
    · have el : e.listed 400 = false := by
        unfold Dat.listed
        rw [np]
      rw [el]
      exact iteP rfl (q _ _ (sA.trans s4))
    have el : (Dat.lst l).listed 400 = true := by
      show decide ((l.length : Int) ≤ 400) = true
      exact decide_eq_true (by omega)
    rw [el]
    refine iteN rfl ?_
    have hu4 := hu.same (sA.trans s4)
    obtain ⟨a, ys, rfl, hy4, hyp⟩ : ∃ a ys, u = .ref a ∧ H4 a = some (.lst ys) ∧ Paired (Rp H4) ys l := by
      cases hu4 with
      | lst e p => exact ⟨_, _, rfl, e, p⟩
    have ly : ys.length = l.length := Paired.len hyp
    refine ⟨_, rfl, a, rfl, ⟨ys, .of hy4⟩, fun L nL => lc_list (K := K) (a := a) (xs := ys) (fun i H' => Same H4 H' ∧ H' L = some (.lst ((List.replicate i false).map V.bl))) ⟨same_upd nL, upd_same⟩ (fun i H' _ p => .of (p.1 _ _ hy4)) (fun i x H5 ex hP => ?_) (fun H5 hP => ?_)⟩
    · obtain ⟨sm, hL⟩ := hP
      obtain ⟨r, er, hr1⟩ := Paired.at hyp ex
      have hi : i < ys.length := (List.getElem?_eq_some_iff.mp ex).1
      refine ⟨rfl, yesT ⟨_, rfl, x, r, rfl, hr1.same sm, l2 r (List.mem_of_getElem? er), fun H6 s6 => ⟨_, s6 _ _ hL, ?_, same_grow nL (sm.trans s6), ?_⟩⟩⟩
      · simp only [List.length_map, List.length_replicate]
        exact small (by omega)
      · rw [upd_same, List.replicate_succ', List.map_append]
        rfl
    obtain ⟨s5, hL⟩ := hP
    refine ⟨L, _, rfl, .of hL, _, rfl, iteP ?_ (q _ _ (sA.trans (s4.trans s5)))⟩
    rw [ly]
    cases l with
    | nil => exact absurd rfl l0
    | cons x t =>
      rw [List.length_cons, all_repF]
      rfl
end
end UP

set_option Elab.async false
set_option linter.all false
set_option maxRecDepth 100000
set_option maxHeartbeats 4000000
namespace UP
open PySem PySem.Spec PyProof.Rows L2
section
variable {P : Program} {w : World} {K : PySem.W.Frag} {mg : Str → Option Value} {base : Heap}
/-! _law_draw: slots 0:spring 1:many 2:mix 3:found -/
abbrev s_law_draw : Stmt := topS 62
theorem sc_law_draw : FnScope ["spring", "many", "mix", "found"] ["spring", "many"] (defScope s_law_draw) := ⟨rfl, rfl, rfl, by decide +kernel, rfl, by decide +kernel, by decide +kernel⟩
def sp_law_draw : Sp := fun vs H Q _ => ∃ (sp : Addr) (m : Int), vs = [.ref sp, .int m] ∧ Spr H sp ∧ 1 ≤ m ∧ m.natAbs < 2 ^ 8000 ∧ ∀ H' r, But sp H H' → Spr H' sp → 0 ≤ r → r < m → Q (.int r) H'
theorem at30 {α : Type} {x y z : α} : atI [x, y, z] 0 = some x := rfl
theorem at31 {α : Type} {x y z : α} : atI [x, y, z] 1 = some y := rfl
theorem at32 {α : Type} {x y z : α} : atI [x, y, z] 2 = some z := rfl
theorem fdiv_le {d m : Int} (h0 : 0 ≤ d) (h1 : 1 ≤ m) : 0 ≤ d / m ∧ d / m ≤ d := by
  refine ⟨Int.ediv_nonneg h0 (by omega), ?_⟩
  have h := Int.ediv_le_self m h0
  exact h
theorem ok_law_draw (D : Df K mg "_law_draw" s_law_draw) (T : Tx mg) : Has P w K mg base 1 "_law_draw" ["spring", "many"] sp_law_draw := by
  refine has_of D sc_law_draw (fun _ _ _ _ _ _ us hl => match us, hl with | [_, _], _ => rfl) (fun vs H Q E h => ?_) (fun f cdv A outer s₀ H vs Q E hr h => ?_)
  · obtain ⟨a, rs, rfl, _⟩ := h
    rfl
  · obtain ⟨sp, m, rfl, ⟨d, s, c, hs, d0, d1, s0, s1⟩, m1, m2, q⟩ := h
    refine ⟨_, (pss_cons (ps_if (pt_cmpR op_gt (pe_ix ix_list (pv 0) pe_int (fun _ _ => rfl)) pe_int (nomark _)) (pss_cons (ps_set (i := 3) sc_law_draw.nd rfl (by first | exact Or.inl rfl | exact Or.inr rfl) (pe_op op_mod (pe_ix ix_list (pv 0) pe_int (fun _ _ => rfl)) (pv 1)))
    (pss_cons (ps_asg (pe_op op_fdivW (pe_ix ix_list (pv 0) pe_int (fun _ _ => rfl)) (pv 1)) (pg_sub (pv 0) pe_int set_list))
    (pss_one (ps_ret (pv 3))))) pss_nil)
    (pss_cons (ps_asg (pe_op op_add (pe_ix ix_list (pv 0) pe_int (fun _ _ => rfl)) pe_int) (pg_sub (pv 0) pe_int set_list))
    (pss_cons (ps_set (i := 2) sc_law_draw.nd rfl (by first | exact Or.inl rfl | exact Or.inr rfl) (pe_op op_mod (pe_op op_mul (pe_ix ix_list (pv 0) pe_int (fun _ _ => rfl)) (pe_ix ix_list (pv 0) pe_int (fun _ _ => rfl))) pe_int))
    (pss_cons (ps_asg (pe_op op_mod (pe_op op_add (pe_op op_add (pv 2) (pe_op op_mul (pe_op op_mul pe_int (pe_ix ix_list (pv 0) pe_int (fun _ _ => rfl))) (pe_ix ix_list (pv 0) pe_int (fun _ _ => rfl)))) pe_int) pe_int) (pg_sub (pv 0) pe_int set_list))
    (pss_one (ps_ret (pe_op op_mod (pe_op op_fdiv (pe_ix ix_list (pv 0) pe_int (fun _ _ => rfl)) pe_int) (pv 1)))))))), ?_⟩
    refine ⟨_, rfl, sp, _, 0, _, rfl, rfl, .of hs, at30, _, _, rfl, rfl, _, rfl, ?_⟩
    by_cases e : 0 < d
    · refine iteP (decide_eq_true e) ?_
      refine ⟨_, rfl, sp, _, 0, _, rfl, rfl, .of hs, at30, _, rfl, _, _, rfl, rfl, (by omega), ?_⟩
      refine ⟨_, rfl, sp, _, 0, _, rfl, rfl, .of hs, at30, _, rfl, _, _, rfl, rfl, wide_div (by omega) m2 (by decide) (by decide), ?_⟩
      refine ⟨_, rfl, sp, _, 0, 0, rfl, rfl, hs, rfl, _, rfl, q _ _ but_upd ⟨d / m, s, c, upd_same, ?_, ?_, s0, s1⟩ (Int.emod_nonneg _ (by omega)) (Int.emod_lt_of_pos _ (by omega))⟩
      · exact (fdiv_le d0 m1).1
      · have := fdiv_le d0 m1
        exact Nat.lt_of_le_of_lt (by omega) d1
    · refine iteN (decide_eq_false e) ?_
      refine ⟨_, rfl, sp, _, 2, _, rfl, rfl, .of hs, at32, _, _, rfl, rfl, ?_⟩
      refine ⟨_, rfl, sp, _, 2, 2, rfl, rfl, hs, rfl, ?_⟩
      have h2 : (upd H sp (.lst [.int d, .int s, .int (c + 1)])) sp = some (.lst [.int d, .int s, .int (c + 1)]) := upd_same
      refine ⟨_, rfl, sp, _, 1, _, rfl, rfl, .of h2, at31, _, rfl, sp, _, 1, _, rfl, rfl, .of h2, at31, _, _, rfl, rfl, .inl ⟨by omega, by omega⟩, _, _, rfl, rfl, (by show (0 : Int) < 2305843009213693951; decide), ?_⟩
      refine ⟨_, rfl, _, rfl, sp, _, 2, _, rfl, rfl, .of h2, at32, _, _, rfl, rfl, .inl ⟨by decide, by decide⟩, _, rfl, sp, _, 1, _, rfl, rfl, .of h2, at31, _, _, rfl, rfl, .inr ⟨by omega, by omega⟩, _, _, rfl, rfl, _, _, rfl, rfl, _, _, rfl, rfl, (by show (0 : Int) < 2305843009213693951; decide), ?_⟩
      refine ⟨_, rfl, sp, _, 1, 1, rfl, rfl, h2, rfl, ?_⟩
      have h3 : ∀ z : Int, (upd (upd H sp (.lst [.int d, .int s, .int (c + 1)])) sp (.lst [.int d, .int z, .int (c + 1)])) sp = some (.lst [.int d, .int z, .int (c + 1)]) := fun z => upd_same
      refine ⟨_, rfl, sp, _, 1, _, rfl, rfl, .of (h3 _), at31, _, _, rfl, rfl, ⟨by decide, by decide⟩, _, rfl, _, _, rfl, rfl, (by omega), ?_⟩
      refine q _ _ (but_upd.trans but_upd) ⟨d, _, _, h3 _, d0, d1, Int.emod_nonneg _ (by decide), Int.emod_lt_of_pos _ (by decide)⟩ (Int.emod_nonneg _ (by omega)) (Int.emod_lt_of_pos _ (by omega))
end
end UP

set_option Elab.async false
set_option linter.all false
set_option maxRecDepth 100000
set_option maxHeartbeats 4000000
namespace UP
open PySem PySem.Spec PyProof.Rows L2
/-! ### data -/
def dRun (r : Run) : PyData := .tuple [.str r.1, .int r.2]
theorem dp_run {K : PySem.W.Frag} {H : Hp} {v : V} {r : Run} (h : RunV H v r) : Dp K H v (dRun r) := by
  obtain ⟨t, rfl, h⟩ := h
  exact .tup (.of h) (.cons (.str _) (.cons (.int _) .nil))
theorem dp_all {K : PySem.W.Frag} {H : Hp} : ∀ {xs : List V} {rs : List Run}, Paired (RunV H) xs rs → DpAll K H xs (rs.map dRun)
  | _, _, .nil => .nil
  | _, _, .cons h t => .cons (dp_run h) (dp_all t)
theorem KindOk.str {s : Str} (h : KindOk s) : PyData.strOk s = true := by
  unfold PyData.strOk
  rw [Array.all_eq_true']
  intro c hc
  have := h.2.2 c (by simpa using hc)
  exact decide_eq_true (by omega)
theorem can_run {r : Run} (h : KindOk r.1) : (dRun r).canLay0 = true := by
  simp [dRun, PyData.canLay0, PyData.canLayAll0, h.str]
theorem can_runs : ∀ {rs : List Run}, (∀ r ∈ rs, KindOk r.1) → PyData.canLayAll0 (rs.map dRun) = true
  | [], _ => by simp [PyData.canLayAll0]
  | r :: t, h => by
    rw [List.map_cons, PyData.canLayAll0, can_run (h r (List.mem_cons_self ..)), can_runs fun x hx => h x (List.mem_cons_of_mem _ hx)]
    rfl
theorem depth_run (r : Run) : (dRun r).depth ≤ 2 := by
  simp [dRun, PyData.depth, PyData.depthAll]
theorem depth_runs : ∀ (rs : List Run), PyData.depthAll (rs.map dRun) ≤ 2
  | [] => by simp [PyData.depthAll]
  | r :: t => by
    rw [List.map_cons, PyData.depthAll]
    exact Nat.max_le.mpr ⟨depth_run r, depth_runs t⟩
theorem shaped_runs {rs : List Run} (h : ∀ r ∈ rs, KindOk r.1) : SeqAt.shaped (.list (rs.map dRun)) = true := by
  unfold SeqAt.shaped
  rw [PyData.canLay0, can_runs h, PyData.depth]
  have := depth_runs rs
  exact decide_eq_true (by omega)
theorem shaped_run {r : Run} (h : KindOk r.1) : SeqAt.shaped (dRun r) = true := by
  unfold SeqAt.shaped
  rw [can_run h]
  have := depth_run r
  exact decide_eq_true (by omega)
theorem shaped_nil : SeqAt.shaped (.list []) = true := by decide
theorem eqv_nil (rs : List Run) : PyData.eqv (.list (rs.map dRun)) (.list []) = rs.isEmpty := by
  cases rs with
  | nil => simp [PyData.eqv, PyData.eqvAll]
  | cons r t => simp [PyData.eqv, PyData.eqvAll]
theorem sb {sp : Addr} {H H' : Hp} (h : Same H H') : But sp H H' := fun b o _ e => h b o e
theorem But.free {sp : Addr} {H H' : Hp} (b : But sp H H') (z : Spr H' sp) {p : Addr} (h : H' p = none) : H p = none := by
  by_cases e : p = sp
  · subst e
    obtain ⟨_, _, _, h1, _⟩ := z
    rw [h1] at h
    cases h
  · cases q : H p with
    | none => rfl
    | some o =>
      rw [b p o e q] at h
      cases h
theorem Spr.ne {sp p : Addr} {H : Hp} (z : Spr H sp) (h : H p = none) : p ≠ sp := by
  obtain ⟨_, _, _, h1, _⟩ := z
  exact fun e => by rw [e, h1] at h; cases h
def StOk (st : Option Run) : Prop := ∀ r, st = some r → KindOk r.1 ∧ 1 ≤ r.2
instance (s : Str) : Decidable (KindOk s) := by
  unfold KindOk
  infer_instance
section
variable {P : Program} {w : World} {K : PySem.W.Frag} {mg : Str → Option Value} {base : Heap}
/-! _law_spring: slots 0:script 1:digits 2:seed 3:cell -/
abbrev s_law_spring : Stmt := topS 61
theorem sc_law_spring : FnScope ["script", "digits", "seed", "cell"] ["script"] (defScope s_law_spring) := ⟨rfl, rfl, rfl, by decide +kernel, rfl, by decide +kernel, by decide +kernel⟩
def sp_law_spring (K : PySem.W.Frag) : Sp := fun vs H Q _ => ∃ (a : Addr) (ns : List Int), vs = [.ref a] ∧ SqL K H a (ns.map V.int) ∧ ns.length ≤ 63 ∧ ∀ H' p, Same H H' → H p = none → Spr H' p → Q (.ref p) H'
theorem pow60 : (10 : Int) ^ ((60 : Int).toNat) = 1000000000000000000000000000000000000000000000000000000000000 := by decide +kernel
theorem pow200 (i : Nat) : 2 ^ (200 * (i + 1)) = 2 ^ (200 * i) * 1606938044258990275541962092341162602522202993782792835301376 := by
  rw [Nat.mul_add, Nat.pow_add]
theorem spring_step {d x : Int} {i : Nat} (h0 : 0 ≤ d) (h1 : d.natAbs < 2 ^ (200 * i)) : 0 ≤ d * (10 : Int) ^ ((60 : Int).toNat) + x % (10 : Int) ^ ((60 : Int).toNat) ∧ (d * (10 : Int) ^ ((60 : Int).toNat) + x % (10 : Int) ^ ((60 : Int).toNat)).natAbs < 2 ^ (200 * (i + 1)) := by
  rw [pow60, pow200]
  generalize 2 ^ (200 * i) = B at h1 ⊢
  have m0 := Int.emod_nonneg x (show (1000000000000000000000000000000000000000000000000000000000000 : Int) ≠ 0 by decide)
  have m1 := Int.emod_lt_of_pos x (show (0 : Int) < 1000000000000000000000000000000000000000000000000000000000000 by decide)
  generalize x % 1000000000000000000000000000000000000000000000000000000000000 = y at m0 m1 ⊢
  omega
theorem ok_law_spring (D : Df K mg "_law_spring" s_law_spring) (T : Tx mg) : Has P w K mg base 1 "_law_spring" ["script"] (sp_law_spring K) := by
  refine has_of D sc_law_spring (fun _ _ _ _ _ _ us hl => match us, hl with | [_], _ => rfl) (fun vs H Q E h => ?_) (fun f cdv A outer s₀ H vs Q E hr h => ?_)
  · obtain ⟨a, rs, rfl, _⟩ := h
    rfl
  · obtain ⟨a, ns, rfl, hS, l63, q⟩ := h
    refine ⟨_, (pss_cons (ps_set (i := 1) sc_law_spring.nd rfl (by first | exact Or.inl rfl | exact Or.inr rfl) pe_int)
    (pss_cons (ps_set (i := 2) sc_law_spring.nd rfl (by first | exact Or.inl rfl | exact Or.inr rfl) pe_int)
    (pss_cons (ps_for PassesOwn.never rfl (pi_list (pe_slice sl_list (pv 0) po_none (po_some pe_int))) (pg_name (i := 3) sc_law_spring.nd rfl (by first | exact Or.inl rfl | exact Or.inr rfl))
      (C8.pss_cut (ps_if (pt_cmpR op_ge (pe_callB call_abs (by rfl) T.n_abs (by decide +kernel) (pa_cons (pv 3) pa_nil)) (pe_op op_pow pe_int pe_int) (nomark _)) (pss_one (ps_set (i := 1) sc_law_spring.nd rfl (by first | exact Or.inl rfl | exact Or.inr rfl) (pe_op op_add (pe_op op_mulW (pv 1) (pe_op op_pow pe_int pe_int)) (pe_op op_mod (pe_callB call_abs (by rfl) T.n_abs (by decide +kernel) (pa_cons (pv 3) pa_nil)) (pe_op op_pow pe_int pe_int))))) pss_nil)
    (pss_one (ps_set (i := 2) sc_law_spring.nd rfl (by first | exact Or.inl rfl | exact Or.inr rfl) (pe_op op_mod (pe_op op_add (pe_op op_add (pe_op op_mul (pv 2) pe_int) (pe_op op_mod (pv 3) pe_int)) pe_int) pe_int)))))
    (pss_one (ps_ret (pe_lst (pa_cons (pv 1) (pa_cons (pv 2) (pa_cons pe_int pa_nil))))))))), ?_⟩
    refine ⟨_, rfl, _, rfl, a, _, rfl, hS, fun c nc => ?_⟩
    obtain ⟨ms, em, lm⟩ : ∃ ms : List Int, cutV (ns.map V.int) none (some 63) = ms.map V.int ∧ ms.length ≤ 63 := by
      refine ⟨_, by unfold cutV; rw [← List.map_drop, ← List.map_take], ?_⟩
      rw [List.length_take, List.length_drop]
      omega
    rw [em]
    have sc : Same H (upd H c (.lst (ms.map V.int))) := same_upd nc
    refine ⟨c, rfl, ⟨_, .of upd_same⟩, for_list (K := K) (a := c) (xs := ms.map V.int) (fun i σ H' => ∃ d s y3, σ = [some (.ref a), some (.int d), some (.int s), y3] ∧ H' = upd H c (.lst (ms.map V.int)) ∧ 0 ≤ d ∧ d.natAbs < 2 ^ (200 * i) ∧ 0 ≤ s ∧ s < 2305843009213693951)
      ⟨0, 88651, none, rfl, rfl, by decide, by decide, by decide, by decide⟩ (fun i σ H' _ hP => ?_) (fun i x σ H4 ex hP => ?_) (fun σ H4 hP => ?_)⟩
    · obtain ⟨_, _, _, _, rfl, _⟩ := hP
      exact .of upd_same
    · obtain ⟨d, s, y3, rfl, rfl, d0, d1, s0, s1⟩ := hP
      rw [List.getElem?_map] at ex
      cases e : ms[i]? with
      | none =>
        rw [e] at ex
        cases ex
      | some n =>
        rw [e] at ex
        have ex := Option.some.inj ex
        subst ex
        refine ⟨fun σ' H' => ∃ d', σ' = [some (.ref a), some (.int d'), some (.int s), some (.int n)] ∧ H' = upd H c (.lst (ms.map V.int)) ∧ 0 ≤ d' ∧ d'.natAbs < 2 ^ (200 * (i + 1)), ?_, fun σ' H5 hM => ?_⟩
        · refine ⟨_, rfl, n, rfl, _, _, rfl, rfl, ⟨by decide, by decide, by decide⟩, _, _, rfl, rfl, _, rfl, ite2 (fun _ => ?_) (fun _ => ?_)⟩
          · refine ⟨_, rfl, _, _, rfl, rfl, ⟨by decide, by decide, by decide⟩, _, _, rfl, rfl, wide_mul (a := 200 * i + 1) (b := 200) (Nat.lt_of_lt_of_le d1 (Nat.pow_le_pow_right (by decide) (by omega))) (by rw [pow60]; decide) (by omega) (by decide) ?_, ?_⟩
            · have : i < ms.length := (List.getElem?_eq_some_iff.mp e).1
              omega
            · refine ⟨_, rfl, n, rfl, _, _, rfl, rfl, ⟨by decide, by decide, by decide⟩, _, _, rfl, rfl, (by show (0 : Int) < 10 ^ ((60 : Int).toNat); rw [pow60]; decide), _, _, rfl, rfl, ?_⟩
              exact ⟨_, rfl, rfl, (spring_step d0 d1).1, (spring_step d0 d1).2⟩
          · refine ⟨d, rfl, rfl, d0, Nat.lt_of_lt_of_le d1 (Nat.pow_le_pow_right (by decide) (by omega))⟩
        · obtain ⟨d', rfl, rfl, d0', d1'⟩ := hM
          refine ⟨_, rfl, _, _, rfl, rfl, .inr ⟨by decide, by decide⟩, _, rfl, _, _, rfl, rfl, (by show (0 : Int) < 2305843009213693921; decide), _, _, rfl, rfl, _, _, rfl, rfl, _, _, rfl, rfl, (by show (0 : Int) < 2305843009213693951; decide), ?_⟩
          exact ⟨d', _, _, rfl, rfl, d0', d1', Int.emod_nonneg _ (by decide), Int.emod_lt_of_pos _ (by decide)⟩
    · obtain ⟨d, s, y3, rfl, rfl, d0, d1, s0, s1⟩ := hP
      refine ⟨_, rfl, _, rfl, (by show 3 ≤ sizeLine; decide), fun p np => q _ p (sc.trans (same_upd np)) (sc.free np) ⟨d, s, 0, upd_same, d0, Nat.lt_of_lt_of_le d1 (Nat.pow_le_pow_right (by decide) ?_), s0, s1⟩⟩
      rw [List.length_map]
      omega
/-! _law_state: slots 0:spring 1:longest 2:kind -/
abbrev s_law_state : Stmt := topS 64
theorem sc_law_state : FnScope ["spring", "longest", "kind"] ["spring", "longest"] (defScope s_law_state) := ⟨rfl, rfl, rfl, by decide +kernel, rfl, by decide +kernel, by decide +kernel⟩
def sp_law_state : Sp := fun vs H Q _ => ∃ (sp : Addr) (m : Int), vs = [.ref sp, .int m] ∧ Spr H sp ∧ 1 ≤ m ∧ m.natAbs < 2 ^ 8000 ∧ ∀ H' v st, But sp H H' → Spr H' sp → StV H' v st → StOk st → (∀ r, st = some r → r.2 ≤ m) → Q v H'
def nine : List Str := ["a", "b", "c", "ab", "zz", "abcdefgh", "aa", "z", "other"]
theorem nine_ok : ∀ s ∈ nine, KindOk s := by decide +kernel
theorem atI_of {α : Type} {l : List α} {i : Int} {x : α} (h0 : 0 ≤ i) (h : l[i.toNat]? = some x) : atI l i = some x := by
  have e : i = (i.toNat : Int) := by omega
  rw [e]
  exact atI_nat h
theorem ok_law_state (D : Df K mg "_law_state" s_law_state) (T : Tx mg) (G_law_draw : Has P w K mg base 1 "_law_draw" ["spring", "many"] sp_law_draw) : Has P w K mg base 2 "_law_state" ["spring", "longest"] sp_law_state := by
  refine has_of D sc_law_state (fun _ _ _ _ _ _ us hl => match us, hl with | [_, _], _ => rfl) (fun vs H Q E h => ?_) (fun f cdv A outer s₀ H vs Q E hr h => ?_)
  · obtain ⟨a, rs, rfl, _⟩ := h
    rfl
  · obtain ⟨sp, m, rfl, hz, m1, m2, q⟩ := h
    refine ⟨_, (pss_cons (ps_set (i := 2) sc_law_state.nd rfl (by first | exact Or.inl rfl | exact Or.inr rfl) (pe_ix ix_list (pe_lst (pa_cons pe_str (pa_cons pe_str (pa_cons pe_str (pa_cons pe_str (pa_cons pe_str (pa_cons pe_str (pa_cons pe_str (pa_cons pe_str (pa_cons pe_str pa_nil)))))))))) (pe_callH G_law_draw (hr.mono (by omega)) (by rfl) (pa_cons (pv 0) (pa_cons pe_int pa_nil))) (fun _ _ => rfl)))
    (pss_one (ps_ret (pe_ifExp (pt_cmpR op_eq (pe_callH G_law_draw (hr.mono (by omega)) (by rfl) (pa_cons (pv 0) (pa_cons pe_int pa_nil))) pe_int (nomark _)) pe_non (pe_tup (pa_cons (pv 2) (pa_cons (pe_op op_add pe_int (pe_callH G_law_draw (hr.mono (by omega)) (by rfl) (pa_cons (pv 0) (pa_cons (pv 1) pa_nil)))) pa_nil))))))), ?_⟩
    refine ⟨(by show 9 ≤ sizeLine; decide), fun l nl => ?_⟩
    have zl : Spr (upd H l (.lst (nine.map V.str))) sp := hz.same (same_upd nl)
    refine ⟨_, rfl, sp, 9, rfl, zl, by decide, by decide, fun H1 r b1 z1 r0 r1 => ?_⟩
    have nl2 : l ≠ sp := Spr.ne hz nl
    have hl : H1 l = some (.lst (nine.map V.str)) := b1 _ _ nl2 upd_same
    have hr9 : r.toNat < nine.length := by
      show r.toNat < 9
      omega
    have ek : (nine.map V.str)[r.toNat]? = some (.str nine[r.toNat]) := by
      rw [List.getElem?_map, List.getElem?_eq_getElem hr9]
      rfl
    have kk : KindOk nine[r.toNat] := nine_ok _ (List.getElem_mem hr9)
    generalize nine[r.toNat] = kd at ek kk
    refine ⟨l, _, r, _, rfl, rfl, .of hl, atI_of r0 ek, ?_⟩
    have bA : But sp H H1 := (sb (same_upd nl)).trans b1
    refine ⟨_, rfl, sp, 3, rfl, z1, by decide, by decide, fun H2 r2 b2 z2 r20 r21 => ⟨rfl, _, rfl, ?_⟩⟩
    by_cases e : r2 = 0
    · subst e
      exact iteP (decide_eq_true rfl) (q H2 _ none (bA.trans b2) z2 rfl (fun r h => by cases h) (fun r h => by cases h))
    · refine iteN (decide_eq_false fun z => e (V.int.inj z)) ?_
      refine ⟨_, rfl, _, rfl, _, rfl, sp, m, rfl, z2, m1, m2, fun H3 r3 b3 z3 r30 r31 => ⟨_, _, rfl, rfl, (by show 2 ≤ sizeLine; decide), fun t nt => ?_⟩⟩
      refine q _ _ (some (kd, 1 + r3)) ((bA.trans (b2.trans b3)).trans (sb (same_upd nt))) (z3.same (same_upd nt)) ⟨t, rfl, upd_same⟩ (fun r h => ?_) (fun r h => ?_)
      · cases h
        exact ⟨kk, by show 1 ≤ 1 + r3; omega⟩
      · cases h
        show 1 + r3 ≤ m
        omega
end
end UP

set_option Elab.async false
set_option linter.all false
set_option maxRecDepth 100000
set_option maxHeartbeats 4000000
namespace UP
open PySem PySem.Spec PyProof.Rows L2
theorem pe_bmK {X : Cx} {K : PySem.W.Frag} {e : Expr} {c : String} {r : V → List V → Hp → VK → Prop} {to : TE} {t : TA} (h : X.K = K) (p : PE X e (tBM X.K c r to t)) : PE X e (tBM K c r to t) := h ▸ p
theorem if_by {c : TT} {t u : TS} {D : Ends} {σ : L2.St} {H : Hp} (R : Bool → Hp → Prop) (h : ∀ Q' : Bool → Hp → Prop, (∀ b H', R b H' → Q' b H') → c σ H Q') (ht : ∀ H', R true H' → t D σ H') (hu : ∀ H', R false H' → u D σ H') : tIfS c t u D σ H := by
  refine h _ fun b H' r => ?_
  cases b with
  | true => exact iteT (ht H' r)
  | false => exact iteF (hu H' r)
theorem erase_map {α β : Type} (f : α → β) : ∀ (l : List α) (i : Nat), (l.map f).eraseIdx i = (l.eraseIdx i).map f
  | [], _ => rfl
  | x :: t, 0 => rfl
  | x :: t, i + 1 => by
    simp only [List.map_cons, List.eraseIdx_cons_succ]
    rw [erase_map f t i]
def eight : List Str := ["a", "b", "c", "ab", "zz", "abcdefgh", "aa", "z"]
theorem eight_ok : ∀ s ∈ eight, KindOk s := by decide +kernel
theorem alt_snoc {l : List Run} {x : Run} (h : Alt l) (k : ∀ y, l[l.length - 1]? = some y → y.1 ≠ x.1) : Alt (l ++ [x]) := by
  intro i a b ha hb
  by_cases h1 : i + 1 < l.length
  · rw [List.getElem?_append_left (by omega)] at ha
    rw [List.getElem?_append_left h1] at hb
    exact h i a b ha hb
  · by_cases h2 : i + 1 = l.length
    · rw [List.getElem?_append_left (by omega)] at ha
      rw [List.getElem?_append_right (by omega), h2, Nat.sub_self] at hb
      cases hb
      rw [show i = l.length - 1 by omega] at ha
      exact k a ha
    · rw [List.getElem?_append_right (by omega)] at hb
      rw [List.getElem?_eq_none (by simp; omega)] at hb
      cases hb
theorem pow62 {x : Int} (h0 : 0 ≤ x) (h1 : x ≤ 1000000) : -(2 ^ 62) ≤ x ∧ x < 2 ^ 62 := by omega
theorem wide8 {m : Int} (h0 : 0 ≤ m) (h1 : m ≤ 1000000000000000000000000000000000000000000000000000000000000) : m.natAbs < 2 ^ 8000 :=
  Nat.lt_of_lt_of_le (show m.natAbs < 2 ^ 256 by omega) (Nat.pow_le_pow_right (by decide) (by decide))
section
variable {P : Program} {w : World} {K : PySem.W.Frag} {mg : Str → Option Value} {base : Heap}
/-! _law_sequence: slots 0:spring 1:most 2:longest 3:pool 4:kinds 5:found 6:k 7:kind 8:count -/
abbrev s_law_sequence : Stmt := topS 63
theorem sc_law_sequence : FnScope ["spring", "most", "longest", "pool", "kinds", "found", "k", "kind", "count"] ["spring", "most", "longest"] (defScope s_law_sequence) := ⟨rfl, rfl, rfl, by decide +kernel, rfl, by decide +kernel, by decide +kernel⟩
def sp_law_sequence : Sp := fun vs H Q _ => ∃ (sp : Addr) (m g : Int), vs = [.ref sp, .int m, .int g] ∧ Spr H sp ∧ 0 ≤ m ∧ m ≤ 400 ∧ 1 ≤ g ∧ g ≤ 1000000000000000000000000000000 ∧ ∀ H' p rs, But sp H H' → Spr H' sp → H p = none → Runs H' p rs → SeqOk rs → (rs.length : Int) ≤ m → (∀ r ∈ rs, r.2 ≤ g) → Q (.ref p) H'
theorem ok_law_sequence (D : Df K mg "_law_sequence" s_law_sequence) (T : Tx mg) (G_law_draw : Has P w K mg base 1 "_law_draw" ["spring", "many"] sp_law_draw) : Has P w K mg base 2 "_law_sequence" ["spring", "most", "longest"] sp_law_sequence := by
  refine has_of D sc_law_sequence (fun _ _ _ _ _ _ us hl => match us, hl with | [_, _, _], _ => rfl) (fun vs H Q E h => ?_) (fun f cdv A outer s₀ H vs Q E hr h => ?_)
  · obtain ⟨_, _, _, rfl, _⟩ := h
    rfl
  · obtain ⟨sp, m, g, rfl, hz, m0, m4, g1, g2, q⟩ := h
    refine ⟨_, (pss_cons (ps_set (i := 3) sc_law_sequence.nd rfl (by first | exact Or.inl rfl | exact Or.inr rfl) (pe_lst (pa_cons pe_str (pa_cons pe_str (pa_cons pe_str (pa_cons pe_str (pa_cons pe_str (pa_cons pe_str (pa_cons pe_str (pa_cons pe_str pa_nil))))))))))
    (pss_cons (ps_setLc (i := 4) (own := [("k", 6)]) rfl sc_law_sequence.nd rfl rfl (sw_true rfl rfl rfl (by decide +kernel)) (pi_range1 (by rfl) T.n_range (pa_cons (pe_op op_add pe_int (pe_callH G_law_draw (hr.mono (by omega)) (by rfl) (pa_cons (pv 0) (pa_cons pe_int pa_nil)))) pa_nil)) (blkOk_by (N := ["spring", "most", "longest", "pool", "kinds", "found", "k", "kind", "count"]) (sc := defScope s_law_sequence) (by decide +kernel)) (fun _ _ _ _ _ => (pg_name (i := 6) sc_law_sequence.nd rfl (by first | exact Or.inl rfl | exact Or.inr rfl))) (fun _ _ _ _ _ => pts_nil) (fun _ _ _ _ _ => (pe_bmK (K := K) rfl (pe_bm PySem.F.plainAttrs_list PySem.F.slot_list_pop PySem.F.type_list_pop mt_popAt (pv 3) (pa_cons (pe_callH G_law_draw (hr.mono (by omega)) (by rfl) (pa_cons (pv 0) (pa_cons (pe_callB (call_len_seqK (K := K) rfl) (by rfl) T.n_len (by decide +kernel) (pa_cons (pv 3) pa_nil)) pa_nil))) pa_nil)))))
    (pss_cons (ps_set (i := 5) sc_law_sequence.nd rfl (by first | exact Or.inl rfl | exact Or.inr rfl) (pe_lst pa_nil))
    (pss_cons (ps_for PassesOwn.never rfl (pi_range1 (by rfl) T.n_range (pa_cons (pe_callH G_law_draw (hr.mono (by omega)) (by rfl) (pa_cons (pv 0) (pa_cons (pe_op op_add (pv 1) pe_int) pa_nil))) pa_nil)) (pg_name (i := 6) sc_law_sequence.nd rfl (by first | exact Or.inl rfl | exact Or.inr rfl))
      (pss_cons (ps_par (i := 7) (j := 8) (by rfl) sc_law_sequence.nd rfl rfl (by decide) rfl rfl (pa_cons (pe_ix ix_list (pv 4) (pe_callH G_law_draw (hr.mono (by omega)) (by rfl) (pa_cons (pv 0) (pa_cons (pe_callB call_len_seq (by rfl) T.n_len (by decide +kernel) (pa_cons (pv 4) pa_nil)) pa_nil))) (fun _ _ => rfl)) (pa_cons (pe_op op_add pe_int (pe_callH G_law_draw (hr.mono (by omega)) (by rfl) (pa_cons (pv 0) (pa_cons (pv 2) pa_nil)))) pa_nil)) (by rfl))
    (pss_one (ps_if (PW.pt (pw_or (pt_cmpR (op_eqD hr.units) (pv 5) (pe_lst pa_nil) (nomark _)) (pw_or1 (pt_cmpR op_ne (pe_ix ix_tup (pe_ix ix_list (pv 5) (pe_un un_neg pe_int) (fun _ _ => rfl)) pe_int (fun _ _ => rfl)) (pv 7) (nomark _))))) (pss_one (ps_expr (pe_bm PySem.F.plainAttrs_list PySem.F.slot_list_append PySem.F.type_list_append mt_append (pv 5) (pa_cons (pe_tup (pa_cons (pv 7) (pa_cons (pv 8) pa_nil))) pa_nil)))) pss_nil))))
    (pss_one (ps_ret (pv 5))))))), ?_⟩
    refine ⟨(by show 8 ≤ sizeLine; decide), fun pl npl => ?_⟩
    have z1 : Spr (upd H pl (.lst (eight.map V.str))) sp := hz.same (same_upd npl)
    have n1 : pl ≠ sp := Spr.ne hz npl
    refine ⟨_, rfl, sp, 5, rfl, z1, by decide, by decide, fun H2 r2 b2 z2 r20 r21 => ?_⟩
    have hp2 : H2 pl = some (.lst (eight.map V.str)) := b2 _ _ n1 upd_same
    have B2 : But sp H H2 := (sb (same_upd npl)).trans b2
    refine ⟨_, _, rfl, rfl, 1 + r2, rfl, by omega, by omega, fun L nL => ?_⟩
    have nLs : L ≠ sp := Spr.ne z2 nL
    have nLp : L ≠ pl := fun e => by rw [e, hp2] at nL; cases nL
    have nLH : H L = none := B2.free z2 nL
    refine lc_range (lo := 0) (n := (1 + r2).toNat) (fun i H' => ∃ ps ks : List Str, But sp H H' ∧ Spr H' sp ∧ H' pl = some (.lst (ps.map V.str)) ∧ ps.length + i = 8 ∧ (∀ s ∈ ps, KindOk s) ∧ H' L = some (.lst (ks.map V.str)) ∧ ks.length = i ∧ (∀ s ∈ ks, KindOk s))
      ⟨eight, [], B2.trans (sb (same_upd nL)), z2.same (same_upd nL), by rw [upd_ne nLp.symm]; exact hp2, rfl, eight_ok, upd_same, rfl, fun s h => by cases h⟩ (fun i H3 hi hP => ?_) (fun H3 hP => ?_)
    · obtain ⟨ps, ks, b3, z3, hpl, lp, okp, hL, lk, okk⟩ := hP
      refine ⟨rfl, yesT ⟨_, rfl, .inl ⟨rfl, _, SqL.of hpl⟩, _, rfl, _, rfl, pl, _, rfl, .inl (.of hpl), sp, _, rfl, z3, ?_, ?_, fun H4 r4 b4 z4 r40 r41 => ?_⟩⟩
      · rw [List.length_map]
        omega
      · rw [List.length_map]
        exact wide8 (by omega) (by omega)
      · rw [List.length_map] at r41
        have lt : r4.toNat < ps.length := by omega
        have h4 : H4 pl = some (.lst (ps.map V.str)) := b4 _ _ n1 hpl
        have hL4 : H4 L = some (.lst (ks.map V.str)) := b4 _ _ nLs hL
        have ek : (ps.map V.str)[r4.toNat]? = some (.str ps[r4.toNat]) := by
          rw [List.getElem?_map, List.getElem?_eq_getElem lt]
          rfl
        have ix : seqIndex? r4 (ps.map V.str).length = some r4.toNat := by
          unfold seqIndex?
          rw [List.length_map]
          have e1 : ¬ r4 < 0 := by omega
          simp only [e1, if_false]
          rw [if_pos]
          simp
          omega
        refine ⟨pl, _, r4, r4.toNat, _, rfl, rfl, h4, by omega, by omega, ix, ek, ks.map V.str, ?_, ?_, ps.eraseIdx r4.toNat, ks ++ [ps[r4.toNat]], ?_, ?_, ?_, ?_, ?_, ?_, ?_, ?_⟩
        · rw [upd_ne nLp]
          exact hL4
        · rw [List.length_map]
          exact small (by omega)
        · intro b o nb eb
          have e1 : b ≠ L := ne_of_none eb nLH
          have e2 : b ≠ pl := ne_of_none eb npl
          rw [upd_ne e1, upd_ne e2]
          exact b4 b o nb (b3 b o nb eb)
        · obtain ⟨d, s, c, hs, rest⟩ := z4
          refine ⟨d, s, c, ?_, rest⟩
          rw [upd_ne nLs.symm, upd_ne n1.symm]
          exact hs
        · rw [upd_ne nLp.symm, upd_same, erase_map]
        · rw [List.length_eraseIdx_of_lt lt]
          omega
        · intro s hs
          exact okp s (List.mem_of_mem_eraseIdx hs)
        · rw [upd_same, List.map_append]
          rfl
        · rw [List.length_append, lk]
          rfl
        · intro s hs
          rcases List.mem_append.mp hs with h | h
          · exact okk s h
          · rw [List.mem_singleton.mp h]
            exact okp _ (List.getElem_mem lt)
    · obtain ⟨ps, ks, b3, z3, hpl, lp, okp, hL, lk, okk⟩ := hP
      refine ⟨Nat.zero_le _, fun p np => ?_⟩
      have npH : H p = none := b3.free z3 np
      have nps : p ≠ sp := Spr.ne z3 np
      have npL : p ≠ L := fun e => by rw [e, hL] at np; cases np
      refine ⟨_, rfl, _, rfl, _, _, rfl, rfl, sp, _, rfl, z3.same (same_upd np), (by show 1 ≤ m + 1; omega), (wide8 (by show 0 ≤ m + 1; omega) (by show m + 1 ≤ _; omega)), fun H5 r5 b5 z5 r50 r51 => ?_⟩
      have r51 : r5 < m + 1 := r51
      refine ⟨r5, rfl, by omega, by omega, for_range (lo := 0) (n := r5.toNat) (fun i σ H' => ∃ y6 y7 y8 rs, σ = [some (.ref sp), some (.int m), some (.int g), some (.ref pl), some (.ref L), some (.ref p), y6, y7, y8] ∧ But sp H H' ∧ Spr H' sp ∧ H' L = some (.lst (ks.map V.str)) ∧ Runs H' p rs ∧ rs.length ≤ i ∧ (∀ r ∈ rs, RunOk r ∧ r.2 ≤ g) ∧ Alt rs)
        ⟨none, none, none, [], rfl, (b3.trans (sb (same_upd np))).trans b5, z5, b5 _ _ nLs (same_upd np _ _ hL), ⟨[], b5 _ _ nps upd_same, .nil⟩, Nat.zero_le _, (fun r h => by cases h), (fun i x y h => by simp at h)⟩ (fun i σ H6 hi hP => ?_) (fun σ H6 hP => ?_)⟩
      · obtain ⟨y6, y7, y8, rs, rfl, b6, z6, hL6, hR, lr, okr, alt⟩ := hP
        refine ⟨_, rfl, _, rfl, _, rfl, L, _, rfl, .inl (.of hL6), sp, _, rfl, z6, ?_, ?_, fun H7 r7 b7 z7 r70 r71 => ?_⟩
        · rw [List.length_map]
          omega
        · rw [List.length_map]
          exact wide8 (by omega) (by omega)
        rw [List.length_map] at r71
        have lt : r7.toNat < ks.length := by omega
        have hL7 : H7 L = some (.lst (ks.map V.str)) := b7 _ _ nLs hL6
        have ek : (ks.map V.str)[r7.toNat]? = some (.str ks[r7.toNat]) := by
          rw [List.getElem?_map, List.getElem?_eq_getElem lt]
          rfl
        have kk : KindOk ks[r7.toNat] := okk _ (List.getElem_mem lt)
        generalize ks[r7.toNat] = kd at ek kk
        refine ⟨L, _, r7, _, rfl, rfl, .of hL7, atI_of r70 ek, ?_⟩
        refine ⟨_, rfl, _, rfl, sp, g, rfl, z7, g1, wide8 (by omega) (by omega), fun H8 r8 b8 z8 r80 r81 => ⟨_, _, rfl, rfl, _, _, rfl, ?_⟩⟩
        have B8 := b6.trans (b7.trans b8)
        have hL8 : H8 L = some (.lst (ks.map V.str)) := b8 _ _ nLs hL7
        have hR8 : Runs H8 p rs := (hR.but z6 b7).but z7 b8
        have okR : ∀ r ∈ rs, KindOk r.1 := fun r h => (okr r h).1.1
        clear b7 b8 hL7 hR hL6 b6 z6 z7
        obtain ⟨xs, hx, hpr⟩ := hR8
        have lx : xs.length = rs.length := Paired.len hpr
        dsimp only
        refine if_by (fun b H9 => Same H8 H9 ∧ (b = true → ∀ y, rs[rs.length - 1]? = some y → y.1 ≠ kd)) (fun Q' k => ?_) (fun H9 hq => ?_) (fun H9 hq => ?_)
        · refine ⟨_, rfl, Nat.zero_le _, fun e ne => ?_⟩
          have se : Same H8 (upd H8 e (.lst [])) := same_upd ne
          refine ⟨.list (rs.map dRun), .list [], .lst (.of (se _ _ hx)) (dp_all (prs_same se hpr)), .lst (.of upd_same) .nil, shaped_runs okR, shaped_nil, _, rfl, ?_⟩
          rw [eqv_nil]
          cases hrs : rs with
          | nil => exact iteP rfl (k _ _ ⟨se, fun _ y hy => by rw [hrs] at hy; cases hy⟩)
          | cons r0 t0 =>
            refine iteN rfl ?_
            have hne : rs ≠ [] := by rw [hrs]; intro z; cases z
            have hlt : rs.length - 1 < rs.length := by
              have : 0 < rs.length := by rw [hrs]; exact Nat.succ_pos _
              omega
            obtain ⟨x, ex, hxv⟩ := Paired.at' hpr (List.getElem?_eq_getElem hlt)
            obtain ⟨tt, rfl, htt⟩ := RunV.same se hxv
            have exl : atI xs (-1) = some (.ref tt) := by
              have h1 : xs ≠ [] := fun z => by rw [z] at lx; rw [hrs] at lx; cases lx
              have h2 : xs = xs.dropLast ++ [xs.getLast h1] := (List.dropLast_concat_getLast h1).symm
              have h3 : xs.getLast h1 = .ref tt := by
                have := List.getLast?_eq_getElem? (l := xs)
                rw [lx, ex, List.getLast?_eq_some_getLast h1] at this
                exact Option.some.inj this
              rw [h2, h3]
              exact atI_last _ _
            refine ⟨_, rfl, 1, rfl, p, xs, -1, _, rfl, rfl, .of (se _ _ hx), exl, tt, _, 0, _, rfl, rfl, .of htt, at0, _, rfl, rfl, _, rfl, ?_⟩
            refine k _ _ ⟨se, fun hb y hy => ?_⟩
            rw [List.getElem?_eq_getElem hlt] at hy
            cases hy
            intro z
            rw [z] at hb
            simp at hb
        · obtain ⟨s9, ha⟩ := hq
          refine ⟨_, rfl, .inl ⟨rfl, _, SqL.of (s9 _ _ hx)⟩, _, rfl, _, rfl, (by show 2 ≤ sizeLine; decide), fun n nn => ⟨p, _, _, rfl, rfl, same_upd nn _ _ (s9 _ _ hx), small (by omega), ?_⟩⟩
          have sn := s9.trans (same_upd (o := .tup [.str kd, .int (1 + r8)]) nn)
          refine ⟨_, _, _, rs ++ [(kd, 1 + r8)], rfl, ?_, ?_, ?_, ⟨_, upd_same, Paired.app (prs_grow (sn _ _ hx) (prs_same sn hpr)) (.cons (RunV.grow (sn _ _ hx) ⟨n, rfl, upd_same⟩) .nil)⟩, ?_, ?_, alt_snoc alt (ha rfl)⟩
          · intro b o nb eb
            rw [upd_ne (ne_of_none eb npH)]
            exact sn b o (B8 b o nb eb)
          · obtain ⟨d, s, c, hs, rest⟩ := z8.same sn
            refine ⟨d, s, c, ?_, rest⟩
            rw [upd_ne nps.symm]
            exact hs
          · rw [upd_ne npL.symm]
            exact sn _ _ hL8
          · rw [List.length_append]
            show rs.length + 1 ≤ i + 1
            omega
          · intro r hr
            rcases List.mem_append.mp hr with h | h
            · exact okr r h
            · rw [List.mem_singleton.mp h]
              exact ⟨⟨kk, by show 1 ≤ 1 + r8; omega, by show 1 + r8 ≤ _; omega⟩, by show 1 + r8 ≤ g; omega⟩
        · obtain ⟨s9, ha⟩ := hq
          exact ⟨_, _, _, rs, rfl, fun b o nb eb => s9 b o (B8 b o nb eb), z8.same s9, s9 _ _ hL8, ⟨xs, s9 _ _ hx, prs_same s9 hpr⟩, by omega, okr, alt⟩
      · obtain ⟨y6, y7, y8, rs, rfl, b6, z6, hL6, hR, lr, okr, alt⟩ := hP
        exact ⟨_, rfl, q H6 p rs b6 z6 npH hR ⟨by omega, fun r h => (okr r h).1, alt⟩ (by omega) (fun r h => (okr r h).2)⟩
end
end UP

set_option Elab.async false
set_option linter.all false
set_option maxRecDepth 100000
set_option maxHeartbeats 4000000
namespace UP
open PySem PySem.Spec PyProof.Rows L2
/-! ### repr of values that hold an empty dict -/
mutual
def Dat.py : Dat → PyData
  | .non => .none
  | .bl b => .bool b
  | .int n => .int n
  | .str z => .str z
  | .dic => .dict []
  | .lst l => .list (Dat.pys l)
  | .tup l => .tuple (Dat.pys l)
def Dat.pys : List Dat → List PyData
  | [] => []
  | x :: t => x.py :: Dat.pys t
end
def RpK (prog : Program) (w : World) (h : Heap) (u : Value) (d : PyData) : Prop :=
  (∃ as, Reads h u d as) ∧ (d.showable = true → d.shown.length ≤ sizeLine → ∃ bs, ReadAtMost h d.depth bs ∧ ReprK prog w bs h d.depth u d.shown)
def RpKs (prog : Program) (w : World) (h : Heap) (us : List Value) (ds : List PyData) : Prop :=
  (∃ as, ReadsAll h us ds as) ∧ (PyData.showableAll ds = true → (∀ t ∈ PyData.shownAll ds, t.length ≤ sizeLine) → ∃ bs, ReadAtMost h (PyData.depthAll ds) bs ∧ ReprAllK prog w bs h (PyData.depthAll ds) us (PyData.shownAll ds))
theorem dic_reads {X : Cx} {pins : List (Addr × Obj)} {σ : L2.St} {H : Hp} {s : Shared} {a : Addr} (I : Inv X pins σ H s) (e : H a = some (.dK [])) : ∃ o n, s.heap.get? a = some o ∧ o.cls = .type "dict" ∧ o.data = .dict #[] n ∧ (a == sysModules) = false := by
  obtain ⟨_, hs, vs, kv, o, es, ep, ho, ex, hd, _, hp, _⟩ := dk_of I.hok e
  cases kv
  obtain ⟨l⟩ := es
  have hp : Pairs (mixKind X.prog X.w) l [] := hp
  cases l with
  | nil => exact ⟨o, ep, ho, ex.1, hd, hs⟩
  | cons x t => cases hp
theorem RpKs.cons {prog : Program} {w : World} {h : Heap} {u : Value} {us : List Value} {d : PyData} {ds : List PyData} (h1 : RpK prog w h u d) (h2 : RpKs prog w h us ds) : RpKs prog w h (u :: us) (d :: ds) := by
  obtain ⟨⟨as, r⟩, k1⟩ := h1
  obtain ⟨⟨bs, rs⟩, k2⟩ := h2
  refine ⟨⟨_, .cons r rs⟩, fun hs hz => ?_⟩
  have hs' : d.showable = true ∧ PyData.showableAll ds = true := by simpa [PyData.showableAll] using hs
  obtain ⟨b1, hb1, k1⟩ := k1 hs'.1 (hz _ (by simp only [PyData.shownAll]; exact List.mem_cons_self ..))
  obtain ⟨b2, hb2, k2⟩ := k2 hs'.2 (fun t ht => hz t (by simp only [PyData.shownAll]; exact List.mem_cons_of_mem _ ht))
  refine ⟨b1 ++ b2, ?_, ?_⟩
  · simp only [PyData.depthAll]
    exact (hb1.mono (Nat.le_max_left _ _)).append (hb2.mono (Nat.le_max_right _ _))
  · simp only [PyData.depthAll, PyData.shownAll]
    exact .cons ((k1.more fun b hb => List.mem_append_left _ hb).level_le (Nat.le_max_left _ _)) (k2.more_le (fun b hb => List.mem_append_right _ hb) (Nat.le_max_right _ _))
theorem RpK.list {prog : Program} {w : World} {h : Heap} {a : Addr} {o : Obj} {its : List Value} {n : Nat} {ds : List PyData} (h1 : h.get? a = some o) (h2 : o.cls = .type "list") (h3 : o.data = .seq its.toArray n) (k : RpKs prog w h its ds) : RpK prog w h (.ref a) (.list ds) := by
  obtain ⟨⟨as, h4⟩, k⟩ := k
  have r : Reads h (.ref a) (.list ds) _ := .list h1 h2 h3 h4
  refine ⟨⟨_, r⟩, fun hs hz => ?_⟩
  have hz' : (listText (PyData.shownAll ds)).length ≤ sizeLine := by simpa only [PyData.shown] using hz
  obtain ⟨bs, hb, hk⟩ := k (by simpa [PyData.showable] using hs) (fun t ht => Nat.le_trans (listText_mem_le ht) hz')
  have hna : a ∉ bs := not_mem_of_deeper r (by simp only [PyData.depth]; omega) hb
  refine ⟨a :: bs, ReadAtMost.cons r (by simp only [PyData.depth]; omega) hb, ?_⟩
  simp only [PyData.depth, PyData.shown]
  cases its with
  | nil =>
    have h4' : ReadsAll h [] ds _ := h4
    cases h4'
    simp only [PyData.shownAll, listText_nil]
    exact ReprK.listEmpty h1 h2 h3
  | cons x l => exact ReprK.list h1 h2 h3 hna (by simpa using hk.length_eq) (fun i y e => hk.item i y (by simpa using e))
theorem RpK.tuple {prog : Program} {w : World} {h : Heap} {a : Addr} {o : Obj} {its : List Value} {n : Nat} {ds : List PyData} (h1 : h.get? a = some o) (h2 : o.cls = .type "tuple") (h3 : o.data = .seq its.toArray n) (k : RpKs prog w h its ds) : RpK prog w h (.ref a) (.tuple ds) := by
  obtain ⟨⟨as, h4⟩, k⟩ := k
  have r : Reads h (.ref a) (.tuple ds) _ := .tuple h1 h2 h3 h4
  refine ⟨⟨_, r⟩, fun hs hz => ?_⟩
  have hz' : (tupleText (PyData.shownAll ds)).length ≤ sizeLine := by simpa only [PyData.shown] using hz
  obtain ⟨bs, hb, hk⟩ := k (by simpa [PyData.showable] using hs) (fun t ht => Nat.le_trans (tupleText_mem_le ht) hz')
  have hna : a ∉ bs := not_mem_of_deeper r (by simp only [PyData.depth]; omega) hb
  refine ⟨a :: bs, ReadAtMost.cons r (by simp only [PyData.depth]; omega) hb, ?_⟩
  simp only [PyData.depth, PyData.shown]
  exact ReprK.tuple h1 h2 h3 hna hk
theorem RpK.dict {prog : Program} {w : World} {h : Heap} {a : Addr} {o : Obj} {n : Nat} (h1 : h.get? a = some o) (h2 : o.cls = .type "dict") (h3 : o.data = .dict #[] n) (hs : (a == sysModules) = false) : RpK prog w h (.ref a) (.dict []) := by
  have r : Reads h (.ref a) (.dict []) _ := .dict h1 h2 h3 .nil .nil
  refine ⟨⟨_, r⟩, fun _ _ => ⟨[a], ?_, ?_⟩⟩
  · intro b hb
    rw [List.mem_singleton.mp hb]
    exact ⟨_, _, r, Nat.le_refl _⟩
  · exact ReprK.dict h1 h2 h3 hs (fun z => by cases z) .nil
theorem Rp.reprK {X : Cx} {pins : List (Addr × Obj)} {σ : L2.St} {H : Hp} {s : Shared} (I : Inv X pins σ H s) {v : V} {d : Dat} (h : Rp H v d) : ∀ u, RelV v u → RpK X.prog X.w s.heap u d.py := by
  refine Rp.rec (motive_1 := fun v d _ => ∀ u, RelV v u → RpK X.prog X.w s.heap u d.py) (motive_2 := fun xs l _ => ∀ us, Vals xs us → RpKs X.prog X.w s.heap us (Dat.pys l)) ?_ ?_ ?_ ?_ ?_ ?_ ?_ ?_ ?_ h
  · intro u r
    cases r
    exact ⟨⟨_, .none⟩, fun hs hz => ReprK.of_reads .none hs (fun z => by cases z) hz⟩
  · intro b u r
    cases r
    exact ⟨⟨_, .bool b⟩, fun hs hz => ReprK.of_reads (.bool b) hs (fun z => by cases z) hz⟩
  · intro n u r
    obtain ⟨t, rfl⟩ := r
    exact ⟨⟨_, .int n t⟩, fun hs hz => ReprK.of_reads (.int n t) hs (fun z => by cases z) hz⟩
  · intro n u r
    obtain ⟨t, rfl⟩ := r
    exact ⟨⟨_, .str n t⟩, fun hs hz => ReprK.of_reads (.str n t) hs (fun z => by cases z) hz⟩
  · intro a e u r
    cases r
    obtain ⟨o, n, h1, h2, h3, h4⟩ := dic_reads I e
    exact RpK.dict h1 h2 h3 h4
  · intro a xs l e _ ih u r
    cases r
    obtain ⟨its, rv, ⟨o, n, ho, hc, _, hd⟩, _⟩ := I.list (SqL.of e)
    exact RpK.list ho hc hd (ih its rv)
  · intro a xs l e _ ih u r
    cases r
    obtain ⟨its, rv, ⟨o, ho, hc, n, hd⟩, _⟩ := I.tuple (SqT.of e)
    exact RpK.tuple ho hc hd (ih its rv)
  · intro us r
    cases r
    exact ⟨⟨_, .nil⟩, fun _ _ => ⟨[], (fun _ h => nomatch h), by simp only [Dat.pys, PyData.shownAll]; exact .nil⟩⟩
  · intro x y xs ys _ _ h1 h2 us r
    cases r with
    | cons r1 r2 => exact RpKs.cons (h1 _ r1) (h2 _ r2)
/-- repr(xs), xs a list or a tuple of such values -/
def rReprR : List V → Hp → VK → Prop := fun xs H Q => ∃ (a : Addr) (d : Dat), xs = [.ref a] ∧ Rp H (.ref a) d ∧ d.py.showable = true ∧ d.py.depth ≤ 64 ∧ d.py.shown.length ≤ sizeLine ∧ Q (.str d.py.shown) H
theorem call_reprR {X : Cx} (hg : X.A.guards = some []) (hu : X.A.units + 70 < cLine) : CallR X (.builtin "repr") rReprR := by
  intro pins s σ H xs us Q I r h
  obtain ⟨a, d, rfl, hr, sh, dp, sz, q⟩ := h
  obtain ⟨u, rfl, ru⟩ := vals1 r
  cases (show u = Value.ref a from ru)
  have fin : ∀ h' u tk, (∀ b o, s.heap.get? b = some o → h'.get? b = some o) → EP X pins σ Q (.str d.py.shown u) { s with heap := h', toks := tk } := fun h' u tk hk => ⟨.str d.py.shown, H, I.kept (t' := tk) hk, ⟨u, rfl⟩, q⟩
  cases hr with
  | dic e =>
    obtain ⟨o, n, h1, h2, h3, h4⟩ := dic_reads I e
    have rd : Reads s.heap (.ref a) (.dict []) _ := .dict h1 h2 h3 .nil .nil
    exact repr_of_reads' rd sh (fun _ z => by
      have z : sysModules ∈ [a] := z
      rw [List.mem_singleton.mp z] at h4
      simp at h4) hg (by show X.A.units + ((PyData.dict []).depth + 1) < cLine; have : (PyData.dict []).depth ≤ 64 := dp; omega) (fun _ _ e => e) fin sz
  | @lst _ xs l e hp =>
    obtain ⟨its, rv, ⟨o, n, ho, hc, _, hd⟩, _⟩ := I.list (SqL.of e)
    have all : ∀ {xs : List V} {l : List Dat}, Paired (Rp H) xs l → ∀ us, Vals xs us → RpKs X.prog X.w s.heap us (Dat.pys l) := by
      intro xs l hp
      induction hp with
      | nil =>
        intro us r
        cases r
        exact ⟨⟨_, .nil⟩, fun _ _ => ⟨[], (fun _ h => nomatch h), by simp only [Dat.pys, PyData.shownAll]; exact .nil⟩⟩
      | cons h1 _ ih =>
        intro us r
        cases r with
        | cons r1 r2 => exact RpKs.cons (h1.reprK I _ r1) (ih _ r2)
    have k := all hp its rv
    obtain ⟨⟨as, h4⟩, k⟩ := k
    have sz' : (listText (PyData.shownAll (Dat.pys l))).length ≤ sizeLine := by simpa only [Dat.py, PyData.shown] using sz
    obtain ⟨bs, hb, hk⟩ := k (by simpa [Dat.py, PyData.showable] using sh) (fun t ht => Nat.le_trans (listText_mem_le ht) sz')
    have r : Reads s.heap (.ref a) (.list (Dat.pys l)) _ := .list ho hc hd h4
    have hna : a ∉ bs := not_mem_of_deeper r (by simp only [PyData.depth]; omega) hb
    have dp' : PyData.depthAll (Dat.pys l) + 1 ≤ 64 := by simpa only [Dat.py, PyData.depth] using dp
    simp only [Dat.py, PyData.shown] at fin
    refine call_repr_slot (by omega) ⟨o, ho, hc⟩ F.slot_list_repr.toG ?_
    cases its with
    | nil =>
      have h4' : ReadsAll s.heap [] (Dat.pys l) _ := h4
      cases hl : Dat.pys l with
      | nil =>
        rw [hl] at fin
        simp only [PyData.shownAll, listText_nil] at fin
        exact call_list_repr_empty ⟨o, ho, hc⟩ ho hd ⟨_, _, rfl, fin s.heap _ _ fun _ _ e => e⟩
      | cons x t =>
        rw [hl] at h4'
        cases h4'
    | cons x t =>
      exact call_list_reprK ho hc hd hna (by simpa using hk.length_eq) (fun i y e => hk.item i y (by simpa using e)) (g := []) hg (fun b _ => Clear.nil b) (by show X.A.units + 1 + _ < cLine; omega) (fun _ _ e => e) (fun h' u tk hk => ⟨_, _, rfl, fin h' u tk hk⟩) sz'
  | @tup _ xs l e hp =>
    obtain ⟨its, rv, ⟨o, ho, hc, n, hd⟩, _⟩ := I.tuple (SqT.of e)
    have all : ∀ {xs : List V} {l : List Dat}, Paired (Rp H) xs l → ∀ us, Vals xs us → RpKs X.prog X.w s.heap us (Dat.pys l) := by
      intro xs l hp
      induction hp with
      | nil =>
        intro us r
        cases r
        exact ⟨⟨_, .nil⟩, fun _ _ => ⟨[], (fun _ h => nomatch h), by simp only [Dat.pys, PyData.shownAll]; exact .nil⟩⟩
      | cons h1 _ ih =>
        intro us r
        cases r with
        | cons r1 r2 => exact RpKs.cons (h1.reprK I _ r1) (ih _ r2)
    have k := all hp its rv
    obtain ⟨⟨as, h4⟩, k⟩ := k
    have sz' : (tupleText (PyData.shownAll (Dat.pys l))).length ≤ sizeLine := by simpa only [Dat.py, PyData.shown] using sz
    obtain ⟨bs, hb, hk⟩ := k (by simpa [Dat.py, PyData.showable] using sh) (fun t ht => Nat.le_trans (tupleText_mem_le ht) sz')
    have r : Reads s.heap (.ref a) (.tuple (Dat.pys l)) _ := .tuple ho hc hd h4
    have hna : a ∉ bs := not_mem_of_deeper r (by simp only [PyData.depth]; omega) hb
    have dp' : PyData.depthAll (Dat.pys l) + 1 ≤ 64 := by simpa only [Dat.py, PyData.depth] using dp
    simp only [Dat.py, PyData.shown] at fin
    refine call_repr_slot (by omega) ⟨o, ho, hc⟩ F.slot_tuple_repr ?_
    exact call_tuple_reprK ho hc hd hna hk (g := []) hg (fun b _ => Clear.nil b) (by show X.A.units + 1 + _ < cLine; omega) (fun _ _ e => e) (fun h' u tk hk => ⟨_, _, rfl, fin h' u tk hk⟩) sz'
end UP

set_option Elab.async false
set_option linter.all false
set_option maxRecDepth 100000
set_option maxHeartbeats 4000000
namespace UP
open PySem PySem.Spec PyProof.Rows L2
/-! ### an exception that is kept beyond its clause -/
def ExK (cls : Value) (a : Addr) : HO := .ext fun h => ∃ (oe : Obj) (vs : Array Value), h.get? a = some oe ∧ Zc cls none oe ∧ oe.data = .fields vs
theorem track {X : Cx} {pins : List (Addr × Obj)} {σ : L2.St} {H : Hp} {s : Shared} {a : Addr} {oe : Obj} {vs : Array Value} {cls : Value} (I : Inv X pins σ H s) (na : H a = none) (ha : s.heap.get? a = some oe) (hz : Zc cls none oe) (hd : oe.data = .fields vs)
    (n0 : X.s_0.heap.get? a = none) (nL : a ≠ X.env.locals) (np : ∀ p ∈ X.pn ++ pins, p.1 ≠ a) : Inv X pins σ (upd H a (ExK cls a)) s := by
  have k : ∀ b o, H b = some o → upd H a (ExK cls a) b = some o := fun b o e => by
    rw [upd_ne (ne_of_none e na)]
    exact e
  refine ⟨I.ok, I.os, I.bare, ⟨I.base.keep, I.base.slot, fun b o e n hx => ?_, I.base.there, fun b xs e => k _ _ (I.base.tups b xs e), fun b o u e => k _ _ (I.base.frzs b o u e), fun b ps e => ?_⟩, I.loc, I.cell, ?_, fun x c e => ?_, fun p hp => ?_, HOk.laidN I.hok (fun _ _ e => e) na ?_, I.len⟩
  · have nb : b ≠ a := fun z => by
      rw [z, n0] at e
      cases e
    rw [upd_ne nb]
    exact I.base.free b o e n hx
  · obtain ⟨m, h⟩ := I.base.tbls b ps e
    exact ⟨m, k _ _ h⟩
  · rw [upd_ne nL.symm]
    exact I.free
  · have nb : c ≠ a := fun z => by
      obtain ⟨v, o, ho, hc⟩ := I.cell x c e
      rw [z, ha] at ho
      cases ho
      rw [hd] at hc
      cases hc
    rw [upd_ne nb]
    exact I.freeC x c e
  · obtain ⟨h1, h2, h3⟩ := I.pin p hp
    exact ⟨h1, by rw [upd_ne (np p hp)]; exact h2, h3⟩
  · exact ⟨⟨oe, vs, ha, hz, hd⟩, ⟨oe, ha⟩, fun _ _ ⟨o, v, q, r⟩ kk => ⟨o, v, kk o q, r⟩⟩
theorem sky_new {B : Heap} {l : List Env} {a L : Addr} {Z : Obj → Prop} {h : Heap} (s : Sky B l a Z L h) : B.get? a = none := by
  rcases s with s | s | s
  · exact s.2.1
  · exact s.2.1
  · exact s.2.1
/-- what 'except x as n: y = n' wishes of an exception of the body, one of x's always -/
def wKeep (K : PySem.W.Frag) (c : Value) (i j : Nat) (D : Ends) : WX := fun cls d σ H =>
  PySem.W.exmOne K cls c = some true ∧ d = none ∧ ∀ a, H a = none → D.nx (((σ.set i (some (.ref a))).set j (some (.ref a))).set i none) (upd H a (ExK cls a))
theorem ps_try_keep {X : Cx} {x n y : Str} {c : Value} {i j : Nat} {body : List Stmt} {np py pm ap pos pos' : Pos} {tb : WX → TS} (hs : X.stack = X.env :: X.outer) (hf : X.env.frame = some X.env.locals) (hN : X.N.Nodup) (hi : X.N[i]? = some n) (hln : X.env.kindOf n = some .local) (hc : Names X x c) (hx0 : X.ex = [])
    (hb : ∀ (W : WX) (pn : List (Addr × Obj)) (xe : Value → Shared → Prop), Takes (X.tr pn xe) W → PassesOwn (model X.prog X.w) X.A X.env xe → PSs (X.tr pn xe) body (tb W))
    (hsu : ∀ (a : Addr) (pn : List (Addr × Obj)), PSs (X.suite a pn) [.Assign [.Name y py] (.Name n pm) ap] (tAsg (tVar i) (gName j))) :
    PS X (.Try body [.ExceptHandler (some (.Name x np)) (some n) [.Assign [.Name y py] (.Name n pm) ap] pos'] [] [] pos) (fun D σ H => tb (wKeep X.K c i j D) D σ H) := by
  refine ⟨fun pins s σ H D I h => ?_⟩
  have ok := I.ok
  refine wpAny_Try_except (wpAny_mono ((hb (wKeep X.K c i j D) (X.pn ++ pins) _ (fun u s' xx => ?_) PassesOwn.looking).run [] s σ H D (I.toTry _) h) (fun f s1 hsp => ?_) (fun e s1 he => he))
  · obtain ⟨a, B, sI, pins', σ1, H1, cls, d, rfl, J0, nb, up, sky, na, os, ag, hexm, rfl, q⟩ := xx
    have J : Inv X pins σ1 H1 sI := J0.ofTry ok
    have sky : Sky B (X.env :: X.outer) a (Zc cls none) X.env.locals s'.heap := by
      rw [← hs]
      exact sky
    have fr : X.A.frames = some (X.env :: X.outer) := by rw [ok.frames, hs]
    show wpAny (model X.prog X.w) X.A (noteFrame (.ref a) X.env) _ _ _
    have nB := sky_new sky
    refine Sky.land Zc.steady fr hf sky fun h3 fl3 up3 => ?_
    have J3 : Inv X pins σ1 H1 { s' with heap := h3 } := J.landed nb fl3.1 (up.trans up3) os ag
    obtain ⟨o3, v3, e3, z3, d3⟩ := fl3.there
    have notFr : a ∉ frs (X.env :: X.outer) := fun hm => by
      obtain ⟨_, o, e, hnf⟩ := fl3.2.2.1.mem hm
      rw [e3] at e
      cases e
      exact hnf _ d3
    have nL : a ≠ X.env.locals := fun z => notFr (List.mem_filterMap.mpr ⟨X.env, List.mem_cons_self, by rw [hf, z]⟩)
    have nF : a ∉ X.fs := fun hm => by
      obtain ⟨e, he, r⟩ := List.mem_filterMap.mp hm
      exact notFr (List.mem_filterMap.mpr ⟨e, List.mem_cons_of_mem _ he, r⟩)
    have nI : sI.heap.get? a = none := by
      cases hI : sI.heap.get? a with
      | none => rfl
      | some o =>
        have := nb a o hI (by
          show a ∉ frs X.stack
          rw [hs]
          exact notFr)
        rw [nB] at this
        cases this
    have n0 : X.s_0.heap.get? a = none := by
      cases h0 : X.s_0.heap.get? a with
      | none => rfl
      | some o =>
        obtain ⟨o', e'⟩ := J.base.there a o h0 (by rw [hx0]; exact List.not_mem_nil)
        rw [nI] at e'
        cases e'
    have npn : ∀ p ∈ X.pn ++ pins, p.1 ≠ a := fun p hp z => by
      have := (J.pin p hp).1
      rw [z, nI] at this
      cases this
    have S3 := J3.suite e3 d3 na nL nF
    refine wpAny_handleBy_cons (codeAny_handlers_test ?_) (by intro r; cases r)
    have LT : PySem.W.Looks (model X.prog X.w) h3 (typeOf (.ref a)) cls := fun A Q E s k r => wpAny_typeOf_ref (k _ _ e3) (by rw [z3.1]; exact r)
    have LM := PySem.W.exm_one (M := model X.prog X.w) (J3.kIn) LT hexm
    have test : ∀ {Q : Value → Shared → Prop} {E : Value → Shared → Prop}, Q c { s' with heap := h3 } → wpAny (model X.prog X.w) (X.A.mark (some (.ref a))) (eval (.Name x np) X.env) Q E { s' with heap := h3 } := fun {Q E} r => by
      obtain ⟨hg, hdbg, hm | ⟨hm, hv, hnn⟩⟩ := hc
      · exact ld_glob (X := X.suite a ((a, o3) :: (X.pn ++ pins))) S3 hg hm r hdbg
      · exact ld_blt (X := X.suite a ((a, o3) :: (X.pn ++ pins))) S3 hg hm hv r hnn hdbg
    refine test (LM.here (codeAny_handlers_suite_as (HandSPX.lands_againZ fl3 fun h4 fl4 up4 => ?_)))
    have J4 : Inv X pins σ1 H1 { s' with heap := h4 } := J.landed nb fl4.1 ((up.trans up3).trans up4) os ag
    obtain ⟨o4, v4, e4, z4, d4⟩ := fl4.there
    refine store_ok (X := X.suite a ((a, o4) :: (X.pn ++ pins))) (v := .ref a) (J4.suite e4 d4 na nL nF) hN hi (.inl hln) rfl (fun s5 S5 => ?_) (.inr hln)
    refine wpAny_mono ((hsu a ((a, o4) :: (X.pn ++ pins))).run [] s5 _ H1 { nx := fun σ6 H6 => σ6 = (σ1.set i (some (.ref a))).set j (some (.ref a)) ∧ H6 = H1, rt := fun _ _ => False, bk := fun _ _ => False, ct := fun _ _ => False } S5 ?_) (fun f s6 hsp => ?_) (fun _ _ r => False.elim r)
    · refine ⟨.ref a, ?_, rfl, rfl⟩
      have li : i < σ1.length := by
        rw [J.len]
        exact (List.getElem?_eq_some_iff.mp hi).1
      exact List.getElem?_set_self li
    cases f with
    | next =>
      obtain ⟨σ6, H6, S6, rfl, rfl⟩ := hsp
      have U := S6.unsuite ok
      have J6 : Inv X ((a, o4) :: pins) ((σ1.set i (some (.ref a))).set j (some (.ref a))) H6 s6 := ⟨U.ok, U.os, U.bare, U.base, U.loc, U.cell, U.free, U.freeC, fun p hp => by
        rcases List.mem_append.mp hp with z | z
        · exact U.pin p (List.mem_append_left _ z)
        · rcases List.mem_cons.mp z with z | z
          · rw [z]
            exact S6.pin (a, o4) (List.mem_append_left _ List.mem_cons_self)
          · exact U.pin p (List.mem_append_right _ z), U.hok, U.len⟩
      refine gone_ok J6 hN hi hln fun s7 J7 => ?_
      have e7 := (J7.pin (a, o4) (List.mem_append_right _ List.mem_cons_self)).1
      have K7 : Inv X pins (((σ1.set i (some (.ref a))).set j (some (.ref a))).set i none) H6 s7 := ⟨J7.ok, J7.os, J7.bare, J7.base, J7.loc, J7.cell, J7.free, J7.freeC, fun p hp => J7.pin p (by
        rcases List.mem_append.mp hp with z | z
        · exact List.mem_append_left _ z
        · exact List.mem_append_right _ (List.mem_cons_of_mem _ z)), J7.hok, J7.len⟩
      exact ⟨_, _, track K7 na e7 z4 d4 n0 nL npn, q a na⟩
    | brk =>
      obtain ⟨_, _, _, z⟩ := hsp
      exact z.elim
    | cont =>
      obtain ⟨_, _, _, z⟩ := hsp
      exact z.elim
    | ret u =>
      obtain ⟨_, _, _, _, _, z⟩ := hsp
      exact z.elim
  · cases f with
    | next =>
      obtain ⟨σ1, H1, J1, q⟩ := hsp
      exact wpAny_execs_nil ⟨σ1, H1, J1.ofTry ok, q⟩
    | brk =>
      obtain ⟨σ1, H1, J1, q⟩ := hsp
      exact ⟨σ1, H1, J1.ofTry ok, q⟩
    | cont =>
      obtain ⟨σ1, H1, J1, q⟩ := hsp
      exact ⟨σ1, H1, J1.ofTry ok, q⟩
    | ret u =>
      obtain ⟨v, σ1, H1, J1, r, q⟩ := hsp
      exact ⟨v, σ1, H1, J1.ofTry ok, r, q⟩
/-- isinstance(e, c), e kept -/
def rIsK (K : PySem.W.Frag) : List V → Hp → VK → Prop := fun xs H Q => ∃ (a D : Addr) (c : V) (cv : Value) (b : Bool), xs = [.ref a, c] ∧ H a = some (ExK (.ref D) a) ∧ ExcC K D ∧ (∀ u, RelV c u → u = cv) ∧ PySem.W.kitOne K (.ref D) cv = some b ∧ Q (.bl b) H
theorem inst_of {X : Cx} {pins : List (Addr × Obj)} {σ : L2.St} {H : Hp} {s : Shared} {a D : Addr} (I : Inv X pins σ H s) (h : H a = some (ExK (.ref D) a)) : ∃ oe, PySem.W.InstAt s.heap a oe D none := by
  have z : ObjOk X.prog X.w H s.heap a (.ext fun h => ∃ (oe : Obj) (vs : Array Value), h.get? a = some oe ∧ Zc (.ref D) none oe ∧ oe.data = .fields vs) := I.hok a _ h
  obtain ⟨⟨oe, vs, hget, hz, hv⟩, _⟩ := z
  refine ⟨oe, ?_⟩
  obtain ⟨oc, od, oda, osl⟩ := oe
  obtain ⟨h1, h2⟩ := hz
  dsimp only at h1 h2 hv
  subst h1 h2 hv
  exact ⟨hget, rfl, rfl, trivial⟩
theorem call_isK {X : Cx} : CallR X (.builtin "isinstance") (rIsK X.K) := by
  intro pins s σ H xs us Q I r h
  obtain ⟨a, D, c, cv, b, rfl, hE, C, hcv, e, q⟩ := h
  cases r with
  | cons rx rr =>
    cases rr with
    | cons rt rr =>
      cases rr
      cases rx
      have ec := hcv _ rt
      subst ec
      obtain ⟨oe, J⟩ := inst_of I hE
      exact PySem.W.kia_one (PySem.W.handS_kitx_exc C.hg C.hk C.hs C.hd C.ha C.hn C.ht C.hm) I.kIn J e (fun z => nomatch z) fun tk => ⟨.bl b, H, I.kept (t' := tk) fun _ _ z => z, rfl, q⟩
end UP

set_option Elab.async false
set_option linter.all false
set_option maxRecDepth 100000
set_option maxHeartbeats 4000000
namespace UP
open PySem PySem.Spec PyProof.Rows L2
/-- isinstance(e, (c1, c2, ..)), e kept -/
def rIsKT (K : PySem.W.Frag) : List V → Hp → VK → Prop := fun xs H Q => ∃ (a D tp : Addr) (cs : List V) (us : List Value) (b : Bool), xs = [.ref a, .ref tp] ∧ H a = some (ExK (.ref D) a) ∧ ExcC K D ∧ H tp = some (.tup cs) ∧ Paired ClsV cs us ∧ PySem.W.kitAny K (.ref D) us = some b ∧ Q (.bl b) H
theorem call_isKT {X : Cx} : CallR X (.builtin "isinstance") (rIsKT X.K) := by
  intro pins s σ H xs us Q I r h
  obtain ⟨a, D, tp, cs, ws, b, rfl, hE, C, hT, k, e, q⟩ := h
  obtain ⟨u1, u2, rfl, r1, r2⟩ := vals2 r
  cases (show u1 = Value.ref a from r1)
  cases (show u2 = Value.ref tp from r2)
  obtain ⟨oe, J⟩ := inst_of I hE
  obtain ⟨_, its, rv, o, h1, h2, n, h3⟩ := (show ObjOk X.prog X.w H s.heap tp (.tup cs) from I.hok tp _ hT)
  have e3 := ClsV.all k rv
  subst e3
  obtain ⟨oc, od, dt, sl⟩ := o
  simp only at h2 h3
  subst h2 h3
  exact PySem.W.kia_tup (PySem.W.handS_kitx_exc C.hg C.hk C.hs C.hd C.ha C.hn C.ht C.hm) I.kIn J h1 e (fun z => nomatch z) fun tk => ⟨.bl b, H, I.tok tk, rfl, q⟩
def six : List Str := ["InvalidSequence", "InvalidState", "InvalidPosition", "InvalidNumber", "InvalidItems", "TooLong"]
def oddA : List Str := ["Contradiction", "Impossible", "InvalidCommand", "InvalidCounts", "InvalidEffects", "InvalidKind"]
def oddB : List Str := ["InvalidKinds", "InvalidRecord", "InvalidText", "NothingToUndo", "SameEffect", "TooMany"]
/-- the classes stand there -/
structure Cmg (mg : Str → Option Value) (CA : Str → Addr) : Prop where
  all : ∀ n, n ∈ six ++ (oddA ++ (oddB ++ [("PairError" : Str)])) → mg n = some (.ref (CA n))
/-- what the class nm says of itself -/
structure ClsF (K : PySem.W.Frag) (CA : Str → Addr) (nm : Str) : Prop where
  ex : ExcC K (CA nm)
  em : PySem.W.exmOne K (.ref (CA nm)) (.ref (CA "PairError")) = some true
  ki : ∀ n, n ∈ six ++ (oddA ++ oddB) → PySem.W.kitOne K (.ref (CA nm)) (.ref (CA n)) = some (decide (n = nm))
  kp : PySem.W.kitOne K (.ref (CA nm)) (.ref (CA "PairError")) = some true
  kv : PySem.W.kitOne K (.ref (CA nm)) (.type "ValueError") = some true
theorem kit_none {K : PySem.W.Frag} {CA : Str → Addr} {nm : Str} (C : ClsF K CA nm) (hn : nm ∈ six) : ∀ l : List Str, (∀ n ∈ l, n ∈ six ++ (oddA ++ oddB) ∧ n ∉ six) → PySem.W.kitAny K (.ref (CA nm)) (l.map fun n => .ref (CA n)) = some false
  | [], _ => rfl
  | n :: t, h => by
    obtain ⟨h1, h2⟩ := h n (List.mem_cons_self ..)
    have e := C.ki n h1
    rw [decide_eq_false (fun z : n = nm => h2 (by rw [z]; exact hn))] at e
    exact kitAny_cons e (fun _ => kit_none C hn t fun x hx => h x (List.mem_cons_of_mem _ hx)) (fun z => by cases z)
section
variable {P : Program} {w : World} {K : PySem.W.Frag} {mg : Str → Option Value} {base : Heap}
/-! _law_class: slots 0:caught 1:found 2:is_base -/
abbrev s_law_class : Stmt := topS 67
theorem sc_law_class : FnScope ["caught", "found", "is_base"] ["caught"] (defScope s_law_class) := ⟨rfl, rfl, rfl, by decide +kernel, rfl, by decide +kernel, by decide +kernel⟩
def sp_law_class (K : PySem.W.Frag) (CA : Str → Addr) : Sp := fun vs H Q _ => ∃ (a : Addr) (nm : Str), vs = [.ref a] ∧ H a = some (ExK (.ref (CA nm)) a) ∧ ClsF K CA nm ∧ nm ∈ six ∧ ∀ H', Same H H' → Q (.str nm) H'
theorem ok_law_class {CA : Str → Addr} (D : Df K mg "_law_class" s_law_class) (T : Tx mg) (CM : Cmg mg CA) : Has P w K mg base 1 "_law_class" ["caught"] (sp_law_class K CA) := by
  refine has_of D sc_law_class (fun _ _ _ _ _ _ us hl => match us, hl with | [_], _ => rfl) (fun vs H Q E h => ?_) (fun f cdv A outer s₀ H vs Q E hr h => ?_)
  · obtain ⟨_, _, rfl, _⟩ := h
    rfl
  · obtain ⟨a, nm, rfl, hE, C, hn, q⟩ := h
    refine ⟨_, (pss_cons (ps_set (i := 1) sc_law_class.nd rfl (by first | exact Or.inl rfl | exact Or.inr rfl) (pe_lst pa_nil))
    (pss_cons (ps_if (pt_val (pe_callB call_isK (by rfl) T.n_isinstance (by decide +kernel) (pa_cons (pv 0) (pa_cons (pe_glob (v := .ref (CA "InvalidSequence")) (by rfl) (CM.all "InvalidSequence" (by decide)) rfl) pa_nil)))) (pss_one (ps_expr (pe_bm PySem.F.plainAttrs_list PySem.F.slot_list_append PySem.F.type_list_append mt_append (pv 1) (pa_cons pe_str pa_nil)))) pss_nil)
    (pss_cons (ps_if (pt_val (pe_callB call_isK (by rfl) T.n_isinstance (by decide +kernel) (pa_cons (pv 0) (pa_cons (pe_glob (v := .ref (CA "InvalidState")) (by rfl) (CM.all "InvalidState" (by decide)) rfl) pa_nil)))) (pss_one (ps_expr (pe_bm PySem.F.plainAttrs_list PySem.F.slot_list_append PySem.F.type_list_append mt_append (pv 1) (pa_cons pe_str pa_nil)))) pss_nil)
    (pss_cons (ps_if (pt_val (pe_callB call_isK (by rfl) T.n_isinstance (by decide +kernel) (pa_cons (pv 0) (pa_cons (pe_glob (v := .ref (CA "InvalidPosition")) (by rfl) (CM.all "InvalidPosition" (by decide)) rfl) pa_nil)))) (pss_one (ps_expr (pe_bm PySem.F.plainAttrs_list PySem.F.slot_list_append PySem.F.type_list_append mt_append (pv 1) (pa_cons pe_str pa_nil)))) pss_nil)
    (pss_cons (ps_if (pt_val (pe_callB call_isK (by rfl) T.n_isinstance (by decide +kernel) (pa_cons (pv 0) (pa_cons (pe_glob (v := .ref (CA "InvalidNumber")) (by rfl) (CM.all "InvalidNumber" (by decide)) rfl) pa_nil)))) (pss_one (ps_expr (pe_bm PySem.F.plainAttrs_list PySem.F.slot_list_append PySem.F.type_list_append mt_append (pv 1) (pa_cons pe_str pa_nil)))) pss_nil)
    (pss_cons (ps_if (pt_val (pe_callB call_isK (by rfl) T.n_isinstance (by decide +kernel) (pa_cons (pv 0) (pa_cons (pe_glob (v := .ref (CA "InvalidItems")) (by rfl) (CM.all "InvalidItems" (by decide)) rfl) pa_nil)))) (pss_one (ps_expr (pe_bm PySem.F.plainAttrs_list PySem.F.slot_list_append PySem.F.type_list_append mt_append (pv 1) (pa_cons pe_str pa_nil)))) pss_nil)
    (pss_cons (ps_if (pt_val (pe_callB call_isK (by rfl) T.n_isinstance (by decide +kernel) (pa_cons (pv 0) (pa_cons (pe_glob (v := .ref (CA "TooLong")) (by rfl) (CM.all "TooLong" (by decide)) rfl) pa_nil)))) (pss_one (ps_expr (pe_bm PySem.F.plainAttrs_list PySem.F.slot_list_append PySem.F.type_list_append mt_append (pv 1) (pa_cons pe_str pa_nil)))) pss_nil)
    (pss_cons (ps_if (pt_val (pe_callB call_isKT (by rfl) T.n_isinstance (by decide +kernel) (pa_cons (pv 0) (pa_cons (pe_tup (pa_cons (pe_glob (v := .ref (CA "Contradiction")) (by rfl) (CM.all "Contradiction" (by decide)) rfl) (pa_cons (pe_glob (v := .ref (CA "Impossible")) (by rfl) (CM.all "Impossible" (by decide)) rfl) (pa_cons (pe_glob (v := .ref (CA "InvalidCommand")) (by rfl) (CM.all "InvalidCommand" (by decide)) rfl) (pa_cons (pe_glob (v := .ref (CA "InvalidCounts")) (by rfl) (CM.all "InvalidCounts" (by decide)) rfl) (pa_cons (pe_glob (v := .ref (CA "InvalidEffects")) (by rfl) (CM.all "InvalidEffects" (by decide)) rfl) (pa_cons (pe_glob (v := .ref (CA "InvalidKind")) (by rfl) (CM.all "InvalidKind" (by decide)) rfl) pa_nil))))))) pa_nil)))) (pss_one (ps_expr (pe_bm PySem.F.plainAttrs_list PySem.F.slot_list_append PySem.F.type_list_append mt_append (pv 1) (pa_cons pe_str pa_nil)))) pss_nil)
    (pss_cons (ps_if (pt_val (pe_callB call_isKT (by rfl) T.n_isinstance (by decide +kernel) (pa_cons (pv 0) (pa_cons (pe_tup (pa_cons (pe_glob (v := .ref (CA "InvalidKinds")) (by rfl) (CM.all "InvalidKinds" (by decide)) rfl) (pa_cons (pe_glob (v := .ref (CA "InvalidRecord")) (by rfl) (CM.all "InvalidRecord" (by decide)) rfl) (pa_cons (pe_glob (v := .ref (CA "InvalidText")) (by rfl) (CM.all "InvalidText" (by decide)) rfl) (pa_cons (pe_glob (v := .ref (CA "NothingToUndo")) (by rfl) (CM.all "NothingToUndo" (by decide)) rfl) (pa_cons (pe_glob (v := .ref (CA "SameEffect")) (by rfl) (CM.all "SameEffect" (by decide)) rfl) (pa_cons (pe_glob (v := .ref (CA "TooMany")) (by rfl) (CM.all "TooMany" (by decide)) rfl) pa_nil))))))) pa_nil)))) (pss_one (ps_expr (pe_bm PySem.F.plainAttrs_list PySem.F.slot_list_append PySem.F.type_list_append mt_append (pv 1) (pa_cons pe_str pa_nil)))) pss_nil)
    (pss_cons (ps_set (i := 2) sc_law_class.nd rfl (by first | exact Or.inl rfl | exact Or.inr rfl) (pe_and (pe_callB call_isK (by rfl) T.n_isinstance (by decide +kernel) (pa_cons (pv 0) (pa_cons (pe_glob (v := .ref (CA "PairError")) (by rfl) (CM.all "PairError" (by decide)) rfl) pa_nil))) (pe_one (pe_callB call_isK (by rfl) T.n_isinstance (by decide +kernel) (pa_cons (pv 0) (pa_cons (pe_bltn (v := .ty "ValueError") (by rfl) T.n_ValueError (by decide +kernel) rfl) pa_nil))))))
    (pss_one (ps_ret (pe_ifExp (PW.pt (pw_and (pt_val (pv 2)) (pw_and1 (pt_cmpR op_eq (pe_callB call_len_seq (by rfl) T.n_len (by decide +kernel) (pa_cons (pv 1) pa_nil)) pe_int (nomark _))))) (pe_ix ix_list (pv 1) pe_int (fun _ _ => rfl)) pe_str))))))))))))), ?_⟩
    refine ⟨Nat.zero_le _, fun l nl => ?_⟩
    have al : a ≠ l := ne_of_none hE nl
    have s1 := same_upd (o := .lst []) nl
    have hE1 := s1 _ _ hE
    have hl : (upd H l (.lst [])) l = some (.lst []) := upd_same
    have kA := kit_none C hn oddA (by decide +kernel)
    have kB := kit_none C hn oddB (by decide +kernel)
    have h6 : nm = "InvalidSequence" ∨ nm = "InvalidState" ∨ nm = "InvalidPosition" ∨ nm = "InvalidNumber" ∨ nm = "InvalidItems" ∨ nm = "TooLong" := by simpa [six] using hn
    generalize hH1 : upd H l (.lst []) = H1 at *
    have s2 : ∀ xs, Same H (upd H1 l (.lst xs)) := fun xs b o e => by
      rw [upd_ne (ne_of_none e nl)]
      exact s1 _ _ e
    have hE2 : (upd H1 l (.lst [.str nm])) a = some (ExK (.ref (CA nm)) a) := s2 _ _ _ hE
    have hl2 : (upd H1 l (.lst [.str nm])) l = some (.lst [.str nm]) := upd_same
    have no1 : ∀ {n m : Str}, n ≠ m → decide (n = m) = false := fun h => decide_eq_false h
    have s3 : ∀ {t1 t2 : Addr} {o1 o2 : HO}, (upd H1 l (.lst [.str nm])) t1 = none → (upd (upd H1 l (.lst [.str nm])) t1 o1) t2 = none → Same H (upd (upd (upd H1 l (.lst [.str nm])) t1 o1) t2 o2) := fun n1 n2 => (s2 _).trans ((same_upd n1).trans (same_upd n2))
    rcases h6 with rfl | rfl | rfl | rfl | rfl | rfl
    · refine ⟨_, rfl, a, _, _, _, _, rfl, hE1, C.ex, (fun u r => r), C.ki "InvalidSequence" (by decide +kernel), _, rfl, iteP (by decide +kernel) ⟨_, rfl, .inl ⟨rfl, _, SqL.of hl⟩, l, _, _, rfl, rfl, hl, (by decide), ?_⟩⟩
      refine ⟨_, rfl, a, _, _, _, _, rfl, hE2, C.ex, (fun u r => r), C.ki "InvalidState" (by decide +kernel), _, rfl, iteN (by decide +kernel) ?_⟩
      refine ⟨_, rfl, a, _, _, _, _, rfl, hE2, C.ex, (fun u r => r), C.ki "InvalidPosition" (by decide +kernel), _, rfl, iteN (by decide +kernel) ?_⟩
      refine ⟨_, rfl, a, _, _, _, _, rfl, hE2, C.ex, (fun u r => r), C.ki "InvalidNumber" (by decide +kernel), _, rfl, iteN (by decide +kernel) ?_⟩
      refine ⟨_, rfl, a, _, _, _, _, rfl, hE2, C.ex, (fun u r => r), C.ki "InvalidItems" (by decide +kernel), _, rfl, iteN (by decide +kernel) ?_⟩
      refine ⟨_, rfl, a, _, _, _, _, rfl, hE2, C.ex, (fun u r => r), C.ki "TooLong" (by decide +kernel), _, rfl, iteN (by decide +kernel) ?_⟩
      refine ⟨_, rfl, (by show 6 ≤ sizeLine; decide), fun t1 n1 => ⟨a, _, t1, _, _, _, rfl, same_upd n1 _ _ hE2, C.ex, upd_same, .cons (.own _) (.cons (.own _) (.cons (.own _) (.cons (.own _) (.cons (.own _) (.cons (.own _) .nil))))), kA, _, rfl, iteN rfl ?_⟩⟩
      refine ⟨_, rfl, (by show 6 ≤ sizeLine; decide), fun t2 n2 => ⟨a, _, t2, _, _, _, rfl, same_upd n2 _ _ (same_upd n1 _ _ hE2), C.ex, upd_same, .cons (.own _) (.cons (.own _) (.cons (.own _) (.cons (.own _) (.cons (.own _) (.cons (.own _) .nil))))), kB, _, rfl, iteN rfl ?_⟩⟩
      refine ⟨_, rfl, a, _, _, _, _, rfl, (same_upd n2 _ _ (same_upd n1 _ _ hE2)), C.ex, (fun u r => r), C.kp, true, rfl, iteT ⟨_, rfl, a, _, _, _, _, rfl, (same_upd n2 _ _ (same_upd n1 _ _ hE2)), C.ex, (fun u r => r), C.kv, ?_⟩⟩
      refine ⟨_, rfl, true, rfl, iteT ⟨_, rfl, l, _, rfl, .inl (.of (same_upd n2 _ _ (same_upd n1 _ _ hl2))), rfl, _, rfl, iteP rfl ⟨_, rfl, l, _, 0, _, rfl, rfl, .of (same_upd n2 _ _ (same_upd n1 _ _ hl2)), rfl, q _ (s3 n1 n2)⟩⟩⟩
    · refine ⟨_, rfl, a, _, _, _, _, rfl, hE1, C.ex, (fun u r => r), C.ki "InvalidSequence" (by decide +kernel), _, rfl, iteN (by decide +kernel) ?_⟩
      refine ⟨_, rfl, a, _, _, _, _, rfl, hE1, C.ex, (fun u r => r), C.ki "InvalidState" (by decide +kernel), _, rfl, iteP (by decide +kernel) ⟨_, rfl, .inl ⟨rfl, _, SqL.of hl⟩, l, _, _, rfl, rfl, hl, (by decide), ?_⟩⟩
      refine ⟨_, rfl, a, _, _, _, _, rfl, hE2, C.ex, (fun u r => r), C.ki "InvalidPosition" (by decide +kernel), _, rfl, iteN (by decide +kernel) ?_⟩
      refine ⟨_, rfl, a, _, _, _, _, rfl, hE2, C.ex, (fun u r => r), C.ki "InvalidNumber" (by decide +kernel), _, rfl, iteN (by decide +kernel) ?_⟩
      refine ⟨_, rfl, a, _, _, _, _, rfl, hE2, C.ex, (fun u r => r), C.ki "InvalidItems" (by decide +kernel), _, rfl, iteN (by decide +kernel) ?_⟩
      refine ⟨_, rfl, a, _, _, _, _, rfl, hE2, C.ex, (fun u r => r), C.ki "TooLong" (by decide +kernel), _, rfl, iteN (by decide +kernel) ?_⟩
      refine ⟨_, rfl, (by show 6 ≤ sizeLine; decide), fun t1 n1 => ⟨a, _, t1, _, _, _, rfl, same_upd n1 _ _ hE2, C.ex, upd_same, .cons (.own _) (.cons (.own _) (.cons (.own _) (.cons (.own _) (.cons (.own _) (.cons (.own _) .nil))))), kA, _, rfl, iteN rfl ?_⟩⟩
      refine ⟨_, rfl, (by show 6 ≤ sizeLine; decide), fun t2 n2 => ⟨a, _, t2, _, _, _, rfl, same_upd n2 _ _ (same_upd n1 _ _ hE2), C.ex, upd_same, .cons (.own _) (.cons (.own _) (.cons (.own _) (.cons (.own _) (.cons (.own _) (.cons (.own _) .nil))))), kB, _, rfl, iteN rfl ?_⟩⟩
      refine ⟨_, rfl, a, _, _, _, _, rfl, (same_upd n2 _ _ (same_upd n1 _ _ hE2)), C.ex, (fun u r => r), C.kp, true, rfl, iteT ⟨_, rfl, a, _, _, _, _, rfl, (same_upd n2 _ _ (same_upd n1 _ _ hE2)), C.ex, (fun u r => r), C.kv, ?_⟩⟩
      refine ⟨_, rfl, true, rfl, iteT ⟨_, rfl, l, _, rfl, .inl (.of (same_upd n2 _ _ (same_upd n1 _ _ hl2))), rfl, _, rfl, iteP rfl ⟨_, rfl, l, _, 0, _, rfl, rfl, .of (same_upd n2 _ _ (same_upd n1 _ _ hl2)), rfl, q _ (s3 n1 n2)⟩⟩⟩
    · refine ⟨_, rfl, a, _, _, _, _, rfl, hE1, C.ex, (fun u r => r), C.ki "InvalidSequence" (by decide +kernel), _, rfl, iteN (by decide +kernel) ?_⟩
      refine ⟨_, rfl, a, _, _, _, _, rfl, hE1, C.ex, (fun u r => r), C.ki "InvalidState" (by decide +kernel), _, rfl, iteN (by decide +kernel) ?_⟩
      refine ⟨_, rfl, a, _, _, _, _, rfl, hE1, C.ex, (fun u r => r), C.ki "InvalidPosition" (by decide +kernel), _, rfl, iteP (by decide +kernel) ⟨_, rfl, .inl ⟨rfl, _, SqL.of hl⟩, l, _, _, rfl, rfl, hl, (by decide), ?_⟩⟩
      refine ⟨_, rfl, a, _, _, _, _, rfl, hE2, C.ex, (fun u r => r), C.ki "InvalidNumber" (by decide +kernel), _, rfl, iteN (by decide +kernel) ?_⟩
      refine ⟨_, rfl, a, _, _, _, _, rfl, hE2, C.ex, (fun u r => r), C.ki "InvalidItems" (by decide +kernel), _, rfl, iteN (by decide +kernel) ?_⟩
      refine ⟨_, rfl, a, _, _, _, _, rfl, hE2, C.ex, (fun u r => r), C.ki "TooLong" (by decide +kernel), _, rfl, iteN (by decide +kernel) ?_⟩
      refine ⟨_, rfl, (by show 6 ≤ sizeLine; decide), fun t1 n1 => ⟨a, _, t1, _, _, _, rfl, same_upd n1 _ _ hE2, C.ex, upd_same, .cons (.own _) (.cons (.own _) (.cons (.own _) (.cons (.own _) (.cons (.own _) (.cons (.own _) .nil))))), kA, _, rfl, iteN rfl ?_⟩⟩
      refine ⟨_, rfl, (by show 6 ≤ sizeLine; decide), fun t2 n2 => ⟨a, _, t2, _, _, _, rfl, same_upd n2 _ _ (same_upd n1 _ _ hE2), C.ex, upd_same, .cons (.own _) (.cons (.own _) (.cons (.own _) (.cons (.own _) (.cons (.own _) (.cons (.own _) .nil))))), kB, _, rfl, iteN rfl ?_⟩⟩
      refine ⟨_, rfl, a, _, _, _, _, rfl, (same_upd n2 _ _ (same_upd n1 _ _ hE2)), C.ex, (fun u r => r), C.kp, true, rfl, iteT ⟨_, rfl, a, _, _, _, _, rfl, (same_upd n2 _ _ (same_upd n1 _ _ hE2)), C.ex, (fun u r => r), C.kv, ?_⟩⟩
      refine ⟨_, rfl, true, rfl, iteT ⟨_, rfl, l, _, rfl, .inl (.of (same_upd n2 _ _ (same_upd n1 _ _ hl2))), rfl, _, rfl, iteP rfl ⟨_, rfl, l, _, 0, _, rfl, rfl, .of (same_upd n2 _ _ (same_upd n1 _ _ hl2)), rfl, q _ (s3 n1 n2)⟩⟩⟩
    · refine ⟨_, rfl, a, _, _, _, _, rfl, hE1, C.ex, (fun u r => r), C.ki "InvalidSequence" (by decide +kernel), _, rfl, iteN (by decide +kernel) ?_⟩
      refine ⟨_, rfl, a, _, _, _, _, rfl, hE1, C.ex, (fun u r => r), C.ki "InvalidState" (by decide +kernel), _, rfl, iteN (by decide +kernel) ?_⟩
      refine ⟨_, rfl, a, _, _, _, _, rfl, hE1, C.ex, (fun u r => r), C.ki "InvalidPosition" (by decide +kernel), _, rfl, iteN (by decide +kernel) ?_⟩
      refine ⟨_, rfl, a, _, _, _, _, rfl, hE1, C.ex, (fun u r => r), C.ki "InvalidNumber" (by decide +kernel), _, rfl, iteP (by decide +kernel) ⟨_, rfl, .inl ⟨rfl, _, SqL.of hl⟩, l, _, _, rfl, rfl, hl, (by decide), ?_⟩⟩
      refine ⟨_, rfl, a, _, _, _, _, rfl, hE2, C.ex, (fun u r => r), C.ki "InvalidItems" (by decide +kernel), _, rfl, iteN (by decide +kernel) ?_⟩
      refine ⟨_, rfl, a, _, _, _, _, rfl, hE2, C.ex, (fun u r => r), C.ki "TooLong" (by decide +kernel), _, rfl, iteN (by decide +kernel) ?_⟩
      refine ⟨_, rfl, (by show 6 ≤ sizeLine; decide), fun t1 n1 => ⟨a, _, t1, _, _, _, rfl, same_upd n1 _ _ hE2, C.ex, upd_same, .cons (.own _) (.cons (.own _) (.cons (.own _) (.cons (.own _) (.cons (.own _) (.cons (.own _) .nil))))), kA, _, rfl, iteN rfl ?_⟩⟩
      refine ⟨_, rfl, (by show 6 ≤ sizeLine; decide), fun t2 n2 => ⟨a, _, t2, _, _, _, rfl, same_upd n2 _ _ (same_upd n1 _ _ hE2), C.ex, upd_same, .cons (.own _) (.cons (.own _) (.cons (.own _) (.cons (.own _) (.cons (.own _) (.cons (.own _) .nil))))), kB, _, rfl, iteN rfl ?_⟩⟩
      refine ⟨_, rfl, a, _, _, _, _, rfl, (same_upd n2 _ _ (same_upd n1 _ _ hE2)), C.ex, (fun u r => r), C.kp, true, rfl, iteT ⟨_, rfl, a, _, _, _, _, rfl, (same_upd n2 _ _ (same_upd n1 _ _ hE2)), C.ex, (fun u r => r), C.kv, ?_⟩⟩
      refine ⟨_, rfl, true, rfl, iteT ⟨_, rfl, l, _, rfl, .inl (.of (same_upd n2 _ _ (same_upd n1 _ _ hl2))), rfl, _, rfl, iteP rfl ⟨_, rfl, l, _, 0, _, rfl, rfl, .of (same_upd n2 _ _ (same_upd n1 _ _ hl2)), rfl, q _ (s3 n1 n2)⟩⟩⟩
    · refine ⟨_, rfl, a, _, _, _, _, rfl, hE1, C.ex, (fun u r => r), C.ki "InvalidSequence" (by decide +kernel), _, rfl, iteN (by decide +kernel) ?_⟩
      refine ⟨_, rfl, a, _, _, _, _, rfl, hE1, C.ex, (fun u r => r), C.ki "InvalidState" (by decide +kernel), _, rfl, iteN (by decide +kernel) ?_⟩
      refine ⟨_, rfl, a, _, _, _, _, rfl, hE1, C.ex, (fun u r => r), C.ki "InvalidPosition" (by decide +kernel), _, rfl, iteN (by decide +kernel) ?_⟩
      refine ⟨_, rfl, a, _, _, _, _, rfl, hE1, C.ex, (fun u r => r), C.ki "InvalidNumber" (by decide +kernel), _, rfl, iteN (by decide +kernel) ?_⟩
      refine ⟨_, rfl, a, _, _, _, _, rfl, hE1, C.ex, (fun u r => r), C.ki "InvalidItems" (by decide +kernel), _, rfl, iteP (by decide +kernel) ⟨_, rfl, .inl ⟨rfl, _, SqL.of hl⟩, l, _, _, rfl, rfl, hl, (by decide), ?_⟩⟩
      refine ⟨_, rfl, a, _, _, _, _, rfl, hE2, C.ex, (fun u r => r), C.ki "TooLong" (by decide +kernel), _, rfl, iteN (by decide +kernel) ?_⟩
      refine ⟨_, rfl, (by show 6 ≤ sizeLine; decide), fun t1 n1 => ⟨a, _, t1, _, _, _, rfl, same_upd n1 _ _ hE2, C.ex, upd_same, .cons (.own _) (.cons (.own _) (.cons (.own _) (.cons (.own _) (.cons (.own _) (.cons (.own _) .nil))))), kA, _, rfl, iteN rfl ?_⟩⟩
      refine ⟨_, rfl, (by show 6 ≤ sizeLine; decide), fun t2 n2 => ⟨a, _, t2, _, _, _, rfl, same_upd n2 _ _ (same_upd n1 _ _ hE2), C.ex, upd_same, .cons (.own _) (.cons (.own _) (.cons (.own _) (.cons (.own _) (.cons (.own _) (.cons (.own _) .nil))))), kB, _, rfl, iteN rfl ?_⟩⟩
      refine ⟨_, rfl, a, _, _, _, _, rfl, (same_upd n2 _ _ (same_upd n1 _ _ hE2)), C.ex, (fun u r => r), C.kp, true, rfl, iteT ⟨_, rfl, a, _, _, _, _, rfl, (same_upd n2 _ _ (same_upd n1 _ _ hE2)), C.ex, (fun u r => r), C.kv, ?_⟩⟩
      refine ⟨_, rfl, true, rfl, iteT ⟨_, rfl, l, _, rfl, .inl (.of (same_upd n2 _ _ (same_upd n1 _ _ hl2))), rfl, _, rfl, iteP rfl ⟨_, rfl, l, _, 0, _, rfl, rfl, .of (same_upd n2 _ _ (same_upd n1 _ _ hl2)), rfl, q _ (s3 n1 n2)⟩⟩⟩
    · refine ⟨_, rfl, a, _, _, _, _, rfl, hE1, C.ex, (fun u r => r), C.ki "InvalidSequence" (by decide +kernel), _, rfl, iteN (by decide +kernel) ?_⟩
      refine ⟨_, rfl, a, _, _, _, _, rfl, hE1, C.ex, (fun u r => r), C.ki "InvalidState" (by decide +kernel), _, rfl, iteN (by decide +kernel) ?_⟩
      refine ⟨_, rfl, a, _, _, _, _, rfl, hE1, C.ex, (fun u r => r), C.ki "InvalidPosition" (by decide +kernel), _, rfl, iteN (by decide +kernel) ?_⟩
      refine ⟨_, rfl, a, _, _, _, _, rfl, hE1, C.ex, (fun u r => r), C.ki "InvalidNumber" (by decide +kernel), _, rfl, iteN (by decide +kernel) ?_⟩
      refine ⟨_, rfl, a, _, _, _, _, rfl, hE1, C.ex, (fun u r => r), C.ki "InvalidItems" (by decide +kernel), _, rfl, iteN (by decide +kernel) ?_⟩
      refine ⟨_, rfl, a, _, _, _, _, rfl, hE1, C.ex, (fun u r => r), C.ki "TooLong" (by decide +kernel), _, rfl, iteP (by decide +kernel) ⟨_, rfl, .inl ⟨rfl, _, SqL.of hl⟩, l, _, _, rfl, rfl, hl, (by decide), ?_⟩⟩
      refine ⟨_, rfl, (by show 6 ≤ sizeLine; decide), fun t1 n1 => ⟨a, _, t1, _, _, _, rfl, same_upd n1 _ _ hE2, C.ex, upd_same, .cons (.own _) (.cons (.own _) (.cons (.own _) (.cons (.own _) (.cons (.own _) (.cons (.own _) .nil))))), kA, _, rfl, iteN rfl ?_⟩⟩
      refine ⟨_, rfl, (by show 6 ≤ sizeLine; decide), fun t2 n2 => ⟨a, _, t2, _, _, _, rfl, same_upd n2 _ _ (same_upd n1 _ _ hE2), C.ex, upd_same, .cons (.own _) (.cons (.own _) (.cons (.own _) (.cons (.own _) (.cons (.own _) (.cons (.own _) .nil))))), kB, _, rfl, iteN rfl ?_⟩⟩
      refine ⟨_, rfl, a, _, _, _, _, rfl, (same_upd n2 _ _ (same_upd n1 _ _ hE2)), C.ex, (fun u r => r), C.kp, true, rfl, iteT ⟨_, rfl, a, _, _, _, _, rfl, (same_upd n2 _ _ (same_upd n1 _ _ hE2)), C.ex, (fun u r => r), C.kv, ?_⟩⟩
      refine ⟨_, rfl, true, rfl, iteT ⟨_, rfl, l, _, rfl, .inl (.of (same_upd n2 _ _ (same_upd n1 _ _ hl2))), rfl, _, rfl, iteP rfl ⟨_, rfl, l, _, 0, _, rfl, rfl, .of (same_upd n2 _ _ (same_upd n1 _ _ hl2)), rfl, q _ (s3 n1 n2)⟩⟩⟩
end
end UP

set_option Elab.async false
set_option linter.all false
set_option maxRecDepth 100000
set_option maxHeartbeats 4000000
namespace UP
open PySem PySem.Spec PyProof.Rows L2
/-- the name of the error that is due, or "none" -/
def dueP (k : Int) (d m : Dat) : Str :=
  if d.seq = false then "InvalidSequence" else if k = 0 ∧ m.inI 0 (lenR d.runs - 1) = false then "InvalidPosition" else if k = 1 ∧ (m.mom d.runs).inI 0 (lenR d.runs) = false then "InvalidPosition" else if k = 2 ∧ m.inI 0 (pnR d.runs - 1) = false then "InvalidNumber" else "none"
section
variable {P : Program} {w : World} {K : PySem.W.Frag} {mg : Str → Option Value} {base : Heap}
/-! _law_asked: slots 0:ask 1:sequence 2:number 3:caught 4:e -/
abbrev s_law_asked : Stmt := topS 68
theorem sc_law_asked : FnScope ["ask", "sequence", "number", "caught", "e"] ["ask", "sequence", "number"] (defScope s_law_asked) := ⟨rfl, rfl, rfl, by decide +kernel, rfl, by decide +kernel, by decide +kernel⟩
def sp_law_asked : Sp := fun vs H Q _ => ∃ (k : Int) (sv mv : V) (d m : Dat), vs = [.int k, sv, mv] ∧ 0 ≤ k ∧ k < 6 ∧ Rp H sv d ∧ d.fits ∧ Rp H mv m ∧ (k = 5 → m.noPr) ∧ ∀ H', Same H H' → Q (.str (dueP k d m)) H'
theorem ok_law_asked {CA : Str → Addr} (D : Df K mg "_law_asked" s_law_asked) (T : Tx mg) (CM : Cmg mg CA) (FS : ClsF K CA "InvalidSequence") (FN : ClsF K CA "InvalidNumber") (FP : ClsF K CA "InvalidPosition") (G_law_class : Has P w K mg base 1 "_law_class" ["caught"] (sp_law_class K CA))
    (G_partner_of : HasX P w K mg base 6 "partner_of" ["sequence", "position"] (sp_partner_of (CA "InvalidSequence") (CA "InvalidPosition"))) (G_pair_count : HasX P w K mg base 6 "pair_count" ["sequence", "moment"] (sp_pair_count (CA "InvalidSequence") (CA "InvalidPosition"))) (G_nth_pair : HasX P w K mg base 6 "nth_pair" ["sequence", "index"] (sp_nth_pair (CA "InvalidSequence") (CA "InvalidNumber")))
    (G_pairs_of : HasX P w K mg base 6 "pairs_of" ["sequence"] (sp_pairs_of (CA "InvalidSequence"))) (G_longest_wait : HasX P w K mg base 6 "longest_wait" ["sequence"] (sp_longest_wait (CA "InvalidSequence"))) (G_is_pairing : HasX P w K mg base 6 "is_pairing" ["sequence", "value"] (sp_is_pairing (CA "InvalidSequence"))) :
    Has P w K mg base 7 "_law_asked" ["ask", "sequence", "number"] sp_law_asked := by
  refine has_of D sc_law_asked (fun _ _ _ _ _ _ us hl => match us, hl with | [_, _, _], _ => rfl) (fun vs H Q E h => ?_) (fun f cdv A outer s₀ H vs Q E hr h => ?_)
  · obtain ⟨_, _, _, _, _, rfl, _⟩ := h
    rfl
  · obtain ⟨k, sv, mv, d, m, rfl, k0, k1, hs, fs, hm, np, q⟩ := h
    -- the ways out
    have lb : ∀ {H1 : Hp} {a : Addr}, Same H H1 → H1 a = none → ∀ {o H2}, Same (upd H1 a o) H2 → Same H H2 := fun s n _ _ s2 => s.trans ((same_upd n).trans s2)
    refine ⟨_, (pss_cons (ps_set (i := 3) sc_law_asked.nd rfl (by first | exact Or.inl rfl | exact Or.inr rfl) pe_non)
    (pss_cons (ps_try_keep (i := 4) (j := 3) rfl rfl sc_law_asked.nd rfl rfl ⟨rfl, by decide, .inl (CM.all "PairError" (by decide))⟩ rfl (fun W pn xe tk _ => (pss_one (ps_if (pt_cmpR op_eq (pv 0) pe_int (nomark _)) (pss_one (ps_expr (pe_callXH G_partner_of tk (hr.mono (by omega)) (by rfl) (pa_cons (pv 1) (pa_cons (pv 2) pa_nil))))) (pss_one (ps_if (pt_cmpR op_eq (pv 0) pe_int (nomark _)) (pss_one (ps_expr (pe_callXH G_pair_count tk (hr.mono (by omega)) (by rfl) (pa_cons (pv 1) (pa_cons (pv 2) pa_nil))))) (pss_one (ps_if (pt_cmpR op_eq (pv 0) pe_int (nomark _)) (pss_one (ps_expr (pe_callXH G_nth_pair tk (hr.mono (by omega)) (by rfl) (pa_cons (pv 1) (pa_cons (pv 2) pa_nil))))) (pss_one (ps_if (pt_cmpR op_eq (pv 0) pe_int (nomark _)) (pss_one (ps_expr (pe_callXH G_pairs_of tk (hr.mono (by omega)) (by rfl) (pa_cons (pv 1) pa_nil)))) (pss_one (ps_if (pt_cmpR op_eq (pv 0) pe_int (nomark _)) (pss_one (ps_expr (pe_callXH G_longest_wait tk (hr.mono (by omega)) (by rfl) (pa_cons (pv 1) pa_nil)))) (pss_one (ps_expr (pe_callXH G_is_pairing tk (hr.mono (by omega)) (by rfl) (pa_cons (pv 1) (pa_cons (pv 2) pa_nil)))))))))))))))) (fun a pn => pss_one (ps_set (i := 3) sc_law_asked.nd rfl (by first | exact Or.inl rfl | exact Or.inr rfl) (pv 4))))
    (pss_one (ps_ret (pe_ifExp (pt_cmpR op_isN (pv 3) pe_non (nomark _)) pe_str (pe_callH G_law_class (hr.mono (by omega)) (by rfl) (pa_cons (pv 3) pa_nil))))))), ?_⟩
    have k6 : k = 0 ∨ k = 1 ∨ k = 2 ∨ k = 3 ∨ k = 4 ∨ k = 5 := by omega
    rcases k6 with rfl | rfl | rfl | rfl | rfl | rfl
    · refine ⟨_, rfl, rfl, _, rfl, iteP rfl ⟨_, rfl, _, rfl, sv, d, mv, m, rfl, hs, fs, hm, fun c1 c2 H1 v1 s1 => ?_, fun c1 H1 s1 => ?_, fun c1 c2 H1 s1 => ?_⟩⟩
      · refine ⟨_, rfl, rfl, _, rfl, iteP rfl ?_⟩
        have q9 := q _ s1
        rw [show dueP 0 d m = "none" by unfold dueP; rw [if_neg (by rw [c1]; decide), if_neg (by rw [c2]; intro z; cases z.2), if_neg (by intro z; omega), if_neg (by intro z; omega)]] at q9
        exact q9
      · refine ⟨FS.em, rfl, fun a na => ⟨_, rfl, rfl, _, rfl, iteN rfl ⟨_, rfl, a, "InvalidSequence", rfl, upd_same, FS, by decide, fun H2 s2 => ?_⟩⟩⟩
        have q9 := q _ (lb s1 na s2)
        rw [show dueP 0 d m = "InvalidSequence" by unfold dueP; rw [if_pos c1]] at q9
        exact q9
      · refine ⟨FP.em, rfl, fun a na => ⟨_, rfl, rfl, _, rfl, iteN rfl ⟨_, rfl, a, "InvalidPosition", rfl, upd_same, FP, by decide, fun H2 s2 => ?_⟩⟩⟩
        have q9 := q _ (lb s1 na s2)
        rw [show dueP 0 d m = "InvalidPosition" by unfold dueP; rw [if_neg (by rw [c1]; decide), if_pos ⟨rfl, c2⟩]] at q9
        exact q9
    · refine ⟨_, rfl, rfl, _, rfl, iteN rfl ⟨_, rfl, rfl, _, rfl, iteP rfl ⟨_, rfl, _, rfl, sv, d, mv, m, rfl, hs, fs, hm, fun c1 n en n0 n1 H1 s1 => ?_, fun c1 H1 s1 => ?_, fun c1 c2 H1 s1 => ?_⟩⟩⟩
      · refine ⟨_, rfl, rfl, _, rfl, iteP rfl ?_⟩
        have q9 := q _ s1
        have cm : (m.mom d.runs).inI 0 (lenR d.runs) = true := by
          rw [en]
          exact decide_eq_true ⟨n0, n1⟩
        rw [show dueP 1 d m = "none" by unfold dueP; rw [if_neg (by rw [c1]; decide), if_neg (by intro z; omega), if_neg (by rw [cm]; intro z; cases z.2), if_neg (by intro z; omega)]] at q9
        exact q9
      · refine ⟨FS.em, rfl, fun a na => ⟨_, rfl, rfl, _, rfl, iteN rfl ⟨_, rfl, a, "InvalidSequence", rfl, upd_same, FS, by decide, fun H2 s2 => ?_⟩⟩⟩
        have q9 := q _ (lb s1 na s2)
        rw [show dueP 1 d m = "InvalidSequence" by unfold dueP; rw [if_pos c1]] at q9
        exact q9
      · refine ⟨FP.em, rfl, fun a na => ⟨_, rfl, rfl, _, rfl, iteN rfl ⟨_, rfl, a, "InvalidPosition", rfl, upd_same, FP, by decide, fun H2 s2 => ?_⟩⟩⟩
        have q9 := q _ (lb s1 na s2)
        rw [show dueP 1 d m = "InvalidPosition" by unfold dueP; rw [if_neg (by rw [c1]; decide), if_neg (by intro z; omega), if_pos ⟨rfl, c2⟩]] at q9
        exact q9
    · refine ⟨_, rfl, rfl, _, rfl, iteN rfl ⟨_, rfl, rfl, _, rfl, iteN rfl ⟨_, rfl, rfl, _, rfl, iteP rfl ⟨_, rfl, _, rfl, sv, d, mv, m, rfl, hs, fs, hm, fun c1 c2 H1 v1 s1 => ?_, fun c1 H1 s1 => ?_, fun c1 c2 H1 s1 => ?_⟩⟩⟩⟩
      · refine ⟨_, rfl, rfl, _, rfl, iteP rfl ?_⟩
        have q9 := q _ s1
        rw [show dueP 2 d m = "none" by unfold dueP; rw [if_neg (by rw [c1]; decide), if_neg (by intro z; omega), if_neg (by intro z; omega), if_neg (by rw [c2]; intro z; cases z.2)]] at q9
        exact q9
      · refine ⟨FS.em, rfl, fun a na => ⟨_, rfl, rfl, _, rfl, iteN rfl ⟨_, rfl, a, "InvalidSequence", rfl, upd_same, FS, by decide, fun H2 s2 => ?_⟩⟩⟩
        have q9 := q _ (lb s1 na s2)
        rw [show dueP 2 d m = "InvalidSequence" by unfold dueP; rw [if_pos c1]] at q9
        exact q9
      · refine ⟨FN.em, rfl, fun a na => ⟨_, rfl, rfl, _, rfl, iteN rfl ⟨_, rfl, a, "InvalidNumber", rfl, upd_same, FN, by decide, fun H2 s2 => ?_⟩⟩⟩
        have q9 := q _ (lb s1 na s2)
        rw [show dueP 2 d m = "InvalidNumber" by unfold dueP; rw [if_neg (by rw [c1]; decide), if_neg (by intro z; omega), if_neg (by intro z; omega), if_pos ⟨rfl, c2⟩]] at q9
        exact q9
    · refine ⟨_, rfl, rfl, _, rfl, iteN rfl ⟨_, rfl, rfl, _, rfl, iteN rfl ⟨_, rfl, rfl, _, rfl, iteN rfl ⟨_, rfl, rfl, _, rfl, iteP rfl ⟨_, rfl, sv, d, rfl, hs, fs, fun c1 H1 v1 s1 => ?_, fun c1 H1 s1 => ?_⟩⟩⟩⟩⟩
      · refine ⟨_, rfl, rfl, _, rfl, iteP rfl ?_⟩
        have q9 := q _ s1
        rw [show dueP 3 d m = "none" by unfold dueP; rw [if_neg (by rw [c1]; decide), if_neg (by intro z; omega), if_neg (by intro z; omega), if_neg (by intro z; omega)]] at q9
        exact q9
      · refine ⟨FS.em, rfl, fun a na => ⟨_, rfl, rfl, _, rfl, iteN rfl ⟨_, rfl, a, "InvalidSequence", rfl, upd_same, FS, by decide, fun H2 s2 => ?_⟩⟩⟩
        have q9 := q _ (lb s1 na s2)
        rw [show dueP 3 d m = "InvalidSequence" by unfold dueP; rw [if_pos c1]] at q9
        exact q9
    · refine ⟨_, rfl, rfl, _, rfl, iteN rfl ⟨_, rfl, rfl, _, rfl, iteN rfl ⟨_, rfl, rfl, _, rfl, iteN rfl ⟨_, rfl, rfl, _, rfl, iteN rfl ⟨_, rfl, rfl, _, rfl, iteP rfl ⟨_, rfl, sv, d, rfl, hs, fs, fun c1 H1 v1 s1 => ?_, fun c1 H1 s1 => ?_⟩⟩⟩⟩⟩⟩
      · refine ⟨_, rfl, rfl, _, rfl, iteP rfl ?_⟩
        have q9 := q _ s1
        rw [show dueP 4 d m = "none" by unfold dueP; rw [if_neg (by rw [c1]; decide), if_neg (by intro z; omega), if_neg (by intro z; omega), if_neg (by intro z; omega)]] at q9
        exact q9
      · refine ⟨FS.em, rfl, fun a na => ⟨_, rfl, rfl, _, rfl, iteN rfl ⟨_, rfl, a, "InvalidSequence", rfl, upd_same, FS, by decide, fun H2 s2 => ?_⟩⟩⟩
        have q9 := q _ (lb s1 na s2)
        rw [show dueP 4 d m = "InvalidSequence" by unfold dueP; rw [if_pos c1]] at q9
        exact q9
    · refine ⟨_, rfl, rfl, _, rfl, iteN rfl ⟨_, rfl, rfl, _, rfl, iteN rfl ⟨_, rfl, rfl, _, rfl, iteN rfl ⟨_, rfl, rfl, _, rfl, iteN rfl ⟨_, rfl, rfl, _, rfl, iteN rfl ⟨_, rfl, _, rfl, sv, d, mv, m, rfl, hs, fs, hm, np rfl, fun c1 H1 v1 s1 => ?_, fun c1 H1 s1 => ?_⟩⟩⟩⟩⟩⟩
      · refine ⟨_, rfl, rfl, _, rfl, iteP rfl ?_⟩
        have q9 := q _ s1
        rw [show dueP 5 d m = "none" by unfold dueP; rw [if_neg (by rw [c1]; decide), if_neg (by intro z; omega), if_neg (by intro z; omega), if_neg (by intro z; omega)]] at q9
        exact q9
      · refine ⟨FS.em, rfl, fun a na => ⟨_, rfl, rfl, _, rfl, iteN rfl ⟨_, rfl, a, "InvalidSequence", rfl, upd_same, FS, by decide, fun H2 s2 => ?_⟩⟩⟩
        have q9 := q _ (lb s1 na s2)
        rw [show dueP 5 d m = "InvalidSequence" by unfold dueP; rw [if_pos c1]] at q9
        exact q9
end
end UP

set_option Elab.async false
set_option linter.all false
set_option maxRecDepth 100000
set_option maxHeartbeats 4000000
namespace UP
open PySem PySem.Spec PyProof.Rows L2
/-! ### written values -/
def Lit (σ : L2.St) (H0 : Hp) (t : TE) (d : Dat) : Prop := ∀ H (Q : VK), Same H0 H → (∀ H' v, Same H H' → Rp H' v d → Q v H') → t σ H Q
def Lits (σ : L2.St) (H0 : Hp) (t : TA) (ds : List Dat) : Prop := ∀ H (Q : List V → Hp → Prop), Same H0 H → (∀ H' vs, Same H H' → Paired (Rp H') vs ds → Q vs H') → t σ H Q
section
variable {σ : L2.St} {H0 : Hp}
theorem Lit.go {H : Hp} {t : TE} {d : Dat} {Q : VK} (h : Lit σ H t d) (q : ∀ H' v, Same H H' → Rp H' v d → Q v H') : t σ H Q := h H Q (Same.refl _) q
theorem lit_non : Lit σ H0 (tC .non) .non := fun H Q _ q => q H _ (Same.refl _) .non
theorem lit_int {n : Int} : Lit σ H0 (tC (.int n)) (.int n) := fun H Q _ q => q H _ (Same.refl _) (.int n)
theorem lit_bl {b : Bool} : Lit σ H0 (tC (.bl b)) (.bl b) := fun H Q _ q => q H _ (Same.refl _) (.bl b)
theorem lit_str {z : Str} : Lit σ H0 (tC (.str z)) (.str z) := fun H Q _ q => q H _ (Same.refl _) (.str z)
theorem lit_dic : Lit σ H0 tDNewK .dic := fun H Q _ q p np => q _ _ (same_upd np) (.dic upd_same)
theorem lit_var {i : Nat} {v : V} {d : Dat} (e : σ[i]? = some (some v)) (h : Rp H0 v d) : Lit σ H0 (tVar i) d := fun H Q s q => ⟨v, e, q H v (Same.refl _) (h.same s)⟩
theorem lit_val {t : TE} {v : V} {d : Dat} (h : ∀ H (Q : VK), Q v H → t σ H Q) (r : ∀ H, Rp H v d) : Lit σ H0 t d := fun H Q _ q => h H Q (q H v (Same.refl _) (r H))
theorem lits_nil : Lits σ H0 tNil [] := fun H Q _ q => q H [] (Same.refl _) .nil
theorem lits_cons {t : TE} {ts : TA} {d : Dat} {ds : List Dat} (h1 : Lit σ H0 t d) (h2 : Lits σ H0 ts ds) : Lits σ H0 (tCons t ts) (d :: ds) := fun H Q s q => h1 H _ s fun H1 v s1 r1 => h2 H1 _ (s.trans s1) fun H2 vs s2 r2 => q H2 (v :: vs) (s1.trans s2) (.cons (r1.same s2) r2)
theorem rps_same {H H' : Hp} {xs : List V} {ds : List Dat} (s : Same H H') (h : Paired (Rp H) xs ds) : Paired (Rp H') xs ds := Paired.imp (fun _ _ => Rp.same s) h
theorem lit_lst {ts : TA} {ds : List Dat} (h : Lits σ H0 ts ds) (l : ds.length ≤ 1000) : Lit σ H0 (tLst ts) (.lst ds) := fun H Q s q => h H _ s fun H1 vs s1 r => ⟨by rw [Paired.len r]; exact smallE (by omega), fun p np => q _ _ (s1.trans (same_upd np)) (.lst upd_same (rps_same (same_upd np) r))⟩
theorem lit_tup {ts : TA} {ds : List Dat} (h : Lits σ H0 ts ds) (l : ds.length ≤ 1000) : Lit σ H0 (tTup ts) (.tup ds) := fun H Q s q => h H _ s fun H1 vs s1 r => ⟨by rw [Paired.len r]; exact smallE (by omega), fun p np => q _ _ (s1.trans (same_upd np)) (.tup upd_same (rps_same (same_upd np) r))⟩
theorem lit_cat {t u : TE} {a b : List Dat} (h1 : Lit σ H0 t (.lst a)) (h2 : Lit σ H0 u (.lst b)) (l : a.length + b.length ≤ 1000) : Lit σ H0 (tOp rCat t u) (.lst (a ++ b)) := fun H Q s q => h1 H _ s fun H1 v s1 r1 => h2 H1 _ (s.trans s1) fun H2 w s2 r2 => by
  cases r1.same s2 with
  | lst e1 p1 =>
    cases r2 with
    | lst e2 p2 =>
      refine ⟨_, _, _, _, rfl, rfl, e1, e2, ?_, fun p np => q _ _ (s1.trans (s2.trans (same_upd np))) (.lst upd_same (rps_same (same_upd np) (Paired.app p1 p2)))⟩
      rw [Paired.len p1, Paired.len p2]
      exact smallE (by omega)
theorem rep_pair {α β : Type} {F : α → β → Prop} {xs : List α} {ys : List β} (h : Paired F xs ys) : ∀ n : Nat, Paired F (List.replicate n xs).flatten (List.replicate n ys).flatten
  | 0 => .nil
  | n + 1 => by
    rw [List.replicate_succ, List.replicate_succ, List.flatten_cons, List.flatten_cons]
    exact Paired.app h (rep_pair h n)
theorem lit_rep {t : TE} {a : List Dat} {k : Int} (h1 : Lit σ H0 t (.lst a)) (k0 : 0 ≤ k) (k1 : k ≤ 1000) (l : a.length * k.toNat ≤ 1000) : Lit σ H0 (tOp rRep t (tC (.int k))) (.lst (List.replicate k.toNat a).flatten) := fun H Q s q => h1 H _ s fun H1 v s1 r1 => by
  cases r1 with
  | lst e1 p1 =>
    refine ⟨_, k, _, rfl, rfl, e1, by omega, by omega, ?_, fun p np => q _ _ (s1.trans (same_upd np)) (.lst upd_same (rps_same (same_upd np) (rep_pair p1 _)))⟩
    rw [Paired.len p1]
    exact smallE (by omega)
end
/-- an index into a written list -/
theorem rp_at {H : Hp} {v : V} {ds : List Dat} {i : Int} (h : Rp H v (.lst ds)) (i0 : 0 ≤ i) (i1 : i.toNat < ds.length) : ∃ a xs x, v = .ref a ∧ H a = some (.lst xs) ∧ atI xs i = some x ∧ Rp H x ds[i.toNat] := by
  cases h with
  | lst e p =>
    obtain ⟨x, ex, hx⟩ := Paired.at' p (List.getElem?_eq_getElem i1)
    exact ⟨_, _, x, rfl, e, atI_of i0 ex, hx⟩
theorem lit_set {t : TE} {d : Dat} {i : Nat} {D : Ends} {rest : TS} {σ : L2.St} {H : Hp} (h : Lit σ H t d) (q : ∀ H' v, Same H H' → Rp H' v d → rest D (σ.set i (some v)) H') : tSeq (tAsg t (gName i)) rest D σ H := h H _ (Same.refl _) q
theorem lit_retIx {K : PySem.W.Frag} {t u : TE} {ds : List Dat} {D : Ends} {σ : L2.St} {H : Hp} (h : Lit σ H t (.lst ds)) (q : ∀ H' v, Same H H' → Rp H' v (.lst ds) → u σ H' (fun y H2 => rIxL K v y H2 D.rt)) : tRet (tOp (rIxL K) t u) D σ H := h H _ (Same.refl _) q
/-! ### the spring is none of these values -/
def Dat.three : List Dat → Bool
  | [.int _, .int _, .int _] => true
  | _ => false
mutual
def Dat.calm : Dat → Bool
  | .lst l => (!Dat.three l) && Dat.calms l
  | .tup l => Dat.calms l
  | _ => true
def Dat.calms : List Dat → Bool
  | [] => true
  | x :: t => x.calm && Dat.calms t
end
theorem three_ints {H : Hp} {a b c : Int} {l : List Dat} (h : Paired (Rp H) [.int a, .int b, .int c] l) : l = [.int a, .int b, .int c] := by
  cases h with
  | cons h1 h =>
    cases h1
    cases h with
    | cons h2 h =>
      cases h2
      cases h with
      | cons h3 h =>
        cases h3
        cases h
        rfl
theorem Rp.butS {sp : Addr} {H H' : Hp} (z : Spr H sp) (b : But sp H H') {v : V} {d : Dat} (h : Rp H v d) : d.calm = true → Rp H' v d := by
  obtain ⟨x, y, n, hs, _⟩ := z
  refine Rp.rec (motive_1 := fun v d _ => d.calm = true → Rp H' v d) (motive_2 := fun xs l _ => Dat.calms l = true → Paired (Rp H') xs l) (fun _ => .non) (fun b _ => .bl b) (fun n _ => .int n) (fun z _ => .str z) ?_ ?_ ?_ (fun _ => .nil) ?_ h
  · intro a e _
    exact .dic (b _ _ (ne_of e hs (by intro q; cases q)) e)
  · intro a xs l e p ih c
    rw [Dat.calm, Bool.and_eq_true] at c
    refine .lst (b _ _ (fun q => ?_) e) (ih c.2)
    rw [q, hs] at e
    have e := HO.lst.inj (Option.some.inj e)
    subst e
    rw [three_ints p] at c
    exact absurd c.1 (by intro z; cases z)
  · intro a xs l e p ih c
    rw [Dat.calm] at c
    exact .tup (b _ _ (ne_of e hs (by intro q; cases q)) e) (ih c)
  · intro x y xs ys _ _ h1 h2 c
    rw [Dat.calms, Bool.and_eq_true] at c
    exact .cons (h1 c.1) (h2 c.2)
end UP

set_option Elab.async false
set_option linter.all false
set_option maxRecDepth 100000
set_option maxHeartbeats 4000000
namespace UP
open PySem PySem.Spec PyProof.Rows L2
/-! ### values that are new -/
/-- the part of the heap that is new since H0 -/
def newH (H0 H : Hp) : Hp := fun b => match H0 b with
  | none => H b
  | some _ => none
theorem newH_at {H0 H : Hp} {b : Addr} (h : H0 b = none) : newH H0 H b = H b := by
  unfold newH
  rw [h]
theorem newH_old {H0 H : Hp} {b : Addr} {o : HO} (h : H0 b = some o) : newH H0 H b = none := by
  unfold newH
  rw [h]
theorem newH_sub {H0 H : Hp} : Same (newH H0 H) H := fun b o e => by
  cases h : H0 b with
  | none => rw [newH_at h] at e; exact e
  | some o' => rw [newH_old h] at e; cases e
theorem newH_same {H0 H H' : Hp} (s : Same H H') : Same (newH H0 H) (newH H0 H') := fun b o e => by
  cases h : H0 b with
  | none => rw [newH_at h] at e ⊢; exact s _ _ e
  | some o' => rw [newH_old h] at e; cases e
theorem newH_upd {H0 H : Hp} {p : Addr} {o : HO} (h : H0 p = none) : newH H0 (upd H p o) p = some o := by
  rw [newH_at h, upd_same]
/-- an old address may change -/
theorem newH_skip {H0 H : Hp} {G : Addr} {o u : HO} (h : H0 G = some u) : newH H0 (upd H G o) = newH H0 H := by
  funext b
  by_cases e : b = G
  · rw [e, newH_old h, newH_old h]
  · unfold newH
    rw [upd_ne e]
theorem Rp.keepG {H0 H : Hp} {G : Addr} {o u : HO} {v : V} {d : Dat} (h : H0 G = some u) (r : Rp (newH H0 H) v d) : Rp (upd H G o) v d := by
  rw [← newH_skip (o := o) h] at r
  exact r.same newH_sub
def LitF (σ : L2.St) (H0 Hs : Hp) (t : TE) (d : Dat) : Prop := ∀ H (Q : VK), Same H0 H → Same Hs H → (∀ H' v, Same H H' → Rp (newH H0 H') v d → Q v H') → t σ H Q
def LitsF (σ : L2.St) (H0 Hs : Hp) (t : TA) (ds : List Dat) : Prop := ∀ H (Q : List V → Hp → Prop), Same H0 H → Same Hs H → (∀ H' vs, Same H H' → Paired (Rp (newH H0 H')) vs ds → Q vs H') → t σ H Q
section
variable {σ : L2.St} {H0 Hs : Hp}
theorem litF_val {t : TE} {v : V} {d : Dat} (h : ∀ H (Q : VK), Q v H → t σ H Q) (r : ∀ H, Rp H v d) : LitF σ H0 Hs t d := fun H Q _ _ q => h H Q (q H v (Same.refl _) (r _))
theorem litF_non : LitF σ H0 Hs (tC .non) .non := litF_val (fun _ _ q => q) (fun _ => .non)
theorem litF_int {n : Int} : LitF σ H0 Hs (tC (.int n)) (.int n) := litF_val (fun _ _ q => q) (fun _ => .int n)
theorem litF_bl {b : Bool} : LitF σ H0 Hs (tC (.bl b)) (.bl b) := litF_val (fun _ _ q => q) (fun _ => .bl b)
theorem litF_str {z : Str} : LitF σ H0 Hs (tC (.str z)) (.str z) := litF_val (fun _ _ q => q) (fun _ => .str z)
theorem litF_dic : LitF σ H0 Hs tDNewK .dic := fun H Q s _ q p np => q _ _ (same_upd np) (.dic (newH_upd (s.free np)))
theorem litsF_nil : LitsF σ H0 Hs tNil [] := fun H Q _ _ q => q H [] (Same.refl _) .nil
theorem litsF_cons {t : TE} {ts : TA} {d : Dat} {ds : List Dat} (h1 : LitF σ H0 Hs t d) (h2 : LitsF σ H0 Hs ts ds) : LitsF σ H0 Hs (tCons t ts) (d :: ds) := fun H Q s t q => h1 H _ s t fun H1 v s1 r1 => h2 H1 _ (s.trans s1) (t.trans s1) fun H2 vs s2 r2 => q H2 (v :: vs) (s1.trans s2) (.cons (r1.same (newH_same s2)) r2)
theorem litF_lst {ts : TA} {ds : List Dat} (h : LitsF σ H0 Hs ts ds) (l : ds.length ≤ 1000) : LitF σ H0 Hs (tLst ts) (.lst ds) := fun H Q s t q => h H _ s t fun H1 vs s1 r => ⟨by rw [Paired.len r]; exact smallE (by omega), fun p np => q _ _ (s1.trans (same_upd np)) (.lst (newH_upd ((s.trans s1).free np)) (rps_same (newH_same (same_upd np)) r))⟩
theorem litF_tup {ts : TA} {ds : List Dat} (h : LitsF σ H0 Hs ts ds) (l : ds.length ≤ 1000) : LitF σ H0 Hs (tTup ts) (.tup ds) := fun H Q s t q => h H _ s t fun H1 vs s1 r => ⟨by rw [Paired.len r]; exact smallE (by omega), fun p np => q _ _ (s1.trans (same_upd np)) (.tup (newH_upd ((s.trans s1).free np)) (rps_same (newH_same (same_upd np)) r))⟩
theorem litF_var {i : Nat} {v : V} {d : Dat} (e : σ[i]? = some (some v)) (h : Rp (newH H0 Hs) v d) : LitF σ H0 Hs (tVar i) d := fun H Q _ s q => ⟨v, e, q H v (Same.refl _) (h.same (newH_same s))⟩
theorem litF_cat {t u : TE} {a b : List Dat} (h1 : LitF σ H0 Hs t (.lst a)) (h2 : LitF σ H0 Hs u (.lst b)) (l : a.length + b.length ≤ 1000) : LitF σ H0 Hs (tOp rCat t u) (.lst (a ++ b)) := fun H Q s w q => h1 H _ s w fun H1 v s1 r1 => h2 H1 _ (s.trans s1) (w.trans s1) fun H2 x s2 r2 => by
  cases r1.same (newH_same s2) with
  | lst e1 p1 =>
    cases r2 with
    | lst e2 p2 =>
      refine ⟨_, _, _, _, rfl, rfl, newH_sub _ _ e1, newH_sub _ _ e2, ?_, fun p np => q _ _ (s1.trans (s2.trans (same_upd np))) (.lst (newH_upd ((s.trans (s1.trans s2)).free np)) (rps_same (newH_same (same_upd np)) (Paired.app p1 p2)))⟩
      rw [Paired.len p1, Paired.len p2]
      exact smallE (by omega)
end
theorem litF_set {t : TE} {d : Dat} {i : Nat} {D : Ends} {rest : TS} {σ : L2.St} {H0 H : Hp} (s : Same H0 H) (h : LitF σ H0 H t d) (q : ∀ H' v, Same H H' → Rp (newH H0 H') v d → rest D (σ.set i (some v)) H') : tSeq (tAsg t (gName i)) rest D σ H := h H _ s (Same.refl _) q
theorem litF_retIx {K : PySem.W.Frag} {t u : TE} {ds : List Dat} {D : Ends} {σ : L2.St} {H0 H : Hp} (s : Same H0 H) (h : LitF σ H0 H t (.lst ds)) (q : ∀ H' v, Same H H' → Rp (newH H0 H') v (.lst ds) → u σ H' (fun y H2 => rIxL K v y H2 D.rt)) : tRet (tOp (rIxL K) t u) D σ H := h H _ s (Same.refl _) q
theorem litF_setIx {K : PySem.W.Frag} {t u : TE} {ds : List Dat} {i : Nat} {D : Ends} {rest : TS} {σ : L2.St} {H0 H : Hp} (s : Same H0 H) (h : LitF σ H0 H t (.lst ds)) (q : ∀ H' v, Same H H' → Rp (newH H0 H') v (.lst ds) → u σ H' (fun y H2 => rIxL K v y H2 (fun x H3 => rest D (σ.set i (some x)) H3))) : tSeq (tAsg (tOp (rIxL K) t u) (gName i)) rest D σ H := h H _ s (Same.refl _) q
/-- the spring is old -/
theorem newH_but {H0 H H' : Hp} {sp : Addr} (z : Spr H0 sp) (b : But sp H H') : Same (newH H0 H) (newH H0 H') := fun x o e => by
  cases h : H0 x with
  | none =>
    rw [newH_at h] at e ⊢
    refine b _ _ (fun q => ?_) e
    obtain ⟨_, _, _, hs, _⟩ := z
    rw [q, hs] at h
    cases h
  | some o' =>
    rw [newH_old h] at e
    cases e
end UP

set_option Elab.async false
set_option linter.all false
set_option maxRecDepth 100000
set_option maxHeartbeats 4000000
namespace UP
open PySem PySem.Spec PyProof.Rows L2
def noState : List Dat := [.int 0, .str "a", .dic, .lst [], .tup [.str "a"], .tup [.str "a", .int 0], .tup [.str "a", .int (-1)], .tup [.str "a", .bl true], .tup [.str "A", .int 1], .tup [.str "", .int 1], .tup [.str "a", .int 1, .int 1], .tup [.int 1, .str "a"], .bl true] ++ [.tup [.str "abcdefghi", .int 1], .tup [.str "a", .non], .lst [.lst [.str "a"], .int 1]]
theorem noState_bad : ∀ d ∈ noState, d.state = false := by decide +kernel
def noSeq (xs : List Dat) : List Dat := (([.non, .int 0, .str "a", .dic, .lst [.non], .lst [.tup [.str "a", .int 0]], .lst [.tup [.str "a", .int ((10 : Int) ^ ((30 : Int).toNat) + 1)]], .lst [.tup [.str "a", .bl true]], .lst [.tup [.str "a", .str "1"]], .lst [.tup [.str "A", .int 1]]] ++ [.lst [.tup [.str "", .int 1]], .lst [.tup [.str "abcdefghi", .int 1]], .lst [.tup [.str "a", .int 1], .tup [.str "a", .int 1]], .lst [.tup [.str "a"]], .lst [.tup [.str "a", .int 1, .int 1]], .tup [.str "a", .int 1], .bl true, .lst [.tup []]]) ++ [.lst ((List.replicate (200 : Int).toNat [.tup [.str "a", .int 1], .tup [.str "b", .int 1]]).flatten ++ [.tup [.str "a", .int 1]]), .lst (xs ++ [.tup [.str "b", .int (-1)]]), .lst [.tup [.int 1, .int 1]], .lst [.tup [.str "a_", .int 1]]]) ++ [.lst [.lst [.str "a", .non]]]
section
variable {P : Program} {w : World} {K : PySem.W.Frag} {mg : Str → Option Value} {base : Heap}
/-! _law_no_state: slots 0:spring 1:some -/
abbrev s_law_no_state : Stmt := topS 66
theorem sc_law_no_state : FnScope ["spring", "some"] ["spring"] (defScope s_law_no_state) := ⟨rfl, rfl, rfl, by decide +kernel, rfl, by decide +kernel, by decide +kernel⟩
def sp_law_no_state : Sp := fun vs H Q _ => ∃ (sp : Addr), vs = [.ref sp] ∧ Spr H sp ∧ ∀ H' v d, But sp H H' → Spr H' sp → d ∈ noState → Rp (newH H H') v d → Q v H'
theorem ok_law_no_state (D : Df K mg "_law_no_state" s_law_no_state) (T : Tx mg) (G_law_draw : Has P w K mg base 1 "_law_draw" ["spring", "many"] sp_law_draw) : Has P w K mg base 2 "_law_no_state" ["spring"] sp_law_no_state := by
  refine has_of D sc_law_no_state (fun _ _ _ _ _ _ us hl => match us, hl with | [_], _ => rfl) (fun vs H Q E h => ?_) (fun f cdv A outer s₀ H vs Q E hr h => ?_)
  · obtain ⟨_, rfl, _⟩ := h
    rfl
  · obtain ⟨sp, rfl, hz, q⟩ := h
    refine ⟨_, (pss_cons (ps_set (i := 1) sc_law_no_state.nd rfl (by first | exact Or.inl rfl | exact Or.inr rfl) (pe_lst (pa_cons pe_int (pa_cons pe_str (pa_cons pe_dnewK (pa_cons (pe_lst pa_nil) (pa_cons (pe_tup (pa_cons pe_str pa_nil)) (pa_cons (pe_tup (pa_cons pe_str (pa_cons pe_int pa_nil))) (pa_cons (pe_tup (pa_cons pe_str (pa_cons (pe_un un_neg pe_int) pa_nil))) (pa_cons (pe_tup (pa_cons pe_str (pa_cons pe_bl pa_nil))) (pa_cons (pe_tup (pa_cons pe_str (pa_cons pe_int pa_nil))) (pa_cons (pe_tup (pa_cons pe_str (pa_cons pe_int pa_nil))) (pa_cons (pe_tup (pa_cons pe_str (pa_cons pe_int (pa_cons pe_int pa_nil)))) (pa_cons (pe_tup (pa_cons pe_int (pa_cons pe_str pa_nil))) (pa_cons pe_bl pa_nil)))))))))))))))
    (pss_one (ps_ret (pe_ix ix_list (pe_op op_cat (pv 1) (pe_lst (pa_cons (pe_tup (pa_cons pe_str (pa_cons pe_int pa_nil))) (pa_cons (pe_tup (pa_cons pe_str (pa_cons pe_non pa_nil))) (pa_cons (pe_lst (pa_cons (pe_lst (pa_cons pe_str pa_nil)) (pa_cons pe_int pa_nil))) pa_nil))))) (pe_callH G_law_draw (hr.mono (by omega)) (by rfl) (pa_cons (pv 0) (pa_cons pe_int pa_nil))) (fun _ _ => rfl))))), ?_⟩
    refine litF_set (Same.refl _) (d := .lst [.int 0, .str "a", .dic, .lst [], .tup [.str "a"], .tup [.str "a", .int 0], .tup [.str "a", .int (-1)], .tup [.str "a", .bl true], .tup [.str "A", .int 1], .tup [.str "", .int 1], .tup [.str "a", .int 1, .int 1], .tup [.int 1, .str "a"], .bl true]) (litF_lst (litsF_cons litF_int (litsF_cons litF_str (litsF_cons litF_dic (litsF_cons (litF_lst litsF_nil (by decide)) (litsF_cons (litF_tup (litsF_cons litF_str litsF_nil) (by decide)) (litsF_cons (litF_tup (litsF_cons litF_str (litsF_cons litF_int litsF_nil)) (by decide)) (litsF_cons (litF_tup (litsF_cons litF_str (litsF_cons (litF_val (v := .int (-1)) (fun H Q q => ⟨1, rfl, q⟩) (fun H => .int _)) litsF_nil)) (by decide)) (litsF_cons (litF_tup (litsF_cons litF_str (litsF_cons litF_bl litsF_nil)) (by decide)) (litsF_cons (litF_tup (litsF_cons litF_str (litsF_cons litF_int litsF_nil)) (by decide)) (litsF_cons (litF_tup (litsF_cons litF_str (litsF_cons litF_int litsF_nil)) (by decide)) (litsF_cons (litF_tup (litsF_cons litF_str (litsF_cons litF_int (litsF_cons litF_int litsF_nil))) (by decide)) (litsF_cons (litF_tup (litsF_cons litF_int (litsF_cons litF_str litsF_nil)) (by decide)) (litsF_cons litF_bl litsF_nil))))))))))))) (by decide)) (fun H1 v1 s1 r1 => ?_)
    refine litF_retIx s1 (litF_cat (litF_var rfl r1) (litF_lst (litsF_cons (litF_tup (litsF_cons litF_str (litsF_cons litF_int litsF_nil)) (by decide)) (litsF_cons (litF_tup (litsF_cons litF_str (litsF_cons litF_non litsF_nil)) (by decide)) (litsF_cons (litF_lst (litsF_cons (litF_lst (litsF_cons litF_str litsF_nil) (by decide)) (litsF_cons litF_int litsF_nil)) (by decide)) litsF_nil))) (by decide)) (by decide)) (fun H2 v2 s2 r2 => ?_)
    refine ⟨_, rfl, sp, 16, rfl, (hz.same s1).same s2, by decide, by decide, fun H3 r b3 z3 r0 r1' => ?_⟩
    have i16 : r.toNat < noState.length := by
      show r.toNat < 16
      omega
    obtain ⟨a, xs, x, rfl, hxs, ex, hx⟩ := rp_at (r2.same (newH_but hz b3)) r0 i16
    exact ⟨a, xs, r, x, rfl, rfl, .of (newH_sub _ _ hxs), ex, q H3 x _ ((sb (s1.trans s2)).trans b3) z3 (List.getElem_mem i16) hx⟩
end
end UP

set_option Elab.async false
set_option linter.all false
set_option maxRecDepth 100000
set_option maxHeartbeats 4000000
namespace UP
open PySem PySem.Spec PyProof.Rows L2
def dR (r : Run) : Dat := .tup [.str r.1, .int r.2]
theorem rps_run {H : Hp} : ∀ {xs : List V} {rs : List Run}, Paired (RunV H) xs rs → Paired (Rp H) xs (rs.map dR)
  | _, _, .nil => .nil
  | _, _, .cons h t => by
    obtain ⟨p, rfl, hp⟩ := h
    exact .cons (.tup hp (.cons (.str _) (.cons (.int _) .nil))) (rps_run t)
theorem rp_runs {H : Hp} {a : Addr} {rs : List Run} (h : Runs H a rs) : Rp H (.ref a) (.lst (rs.map dR)) := by
  obtain ⟨xs, hx, hp⟩ := h
  exact .lst hx (rps_run hp)
theorem calms_runs : ∀ (rs : List Run) (l : List Dat), Dat.calms l = true → Dat.calms (rs.map dR ++ l) = true
  | [], _, h => h
  | r :: t, l, h => by
    show (Dat.calm (dR r) && Dat.calms (t.map dR ++ l)) = true
    rw [calms_runs t l h]
    rfl
theorem calms_app : ∀ (a b : List Dat), Dat.calms (a ++ b) = (Dat.calms a && Dat.calms b)
  | [], _ => rfl
  | x :: t, b => by
    show (Dat.calm x && Dat.calms (t ++ b)) = ((Dat.calm x && Dat.calms t) && Dat.calms b)
    rw [calms_app t b, Bool.and_assoc]
theorem three_runs : ∀ (rs : List Run) (z : Str) (n : Int), Dat.three (rs.map dR ++ [.tup [.str z, .int n]]) = false
  | [], _, _ => rfl
  | r :: t, _, _ => rfl
section
variable {P : Program} {w : World} {K : PySem.W.Frag} {mg : Str → Option Value} {base : Heap}
/-! _law_no_sequence: slots 0:spring 1:sequence 2:some -/
abbrev s_law_no_sequence : Stmt := topS 65
theorem sc_law_no_sequence : FnScope ["spring", "sequence", "some"] ["spring", "sequence"] (defScope s_law_no_sequence) := ⟨rfl, rfl, rfl, by decide +kernel, rfl, by decide +kernel, by decide +kernel⟩
def sp_law_no_sequence : Sp := fun vs H Q _ => ∃ (sp a : Addr) (rs : List Run), vs = [.ref sp, .ref a] ∧ Spr H sp ∧ Runs H a rs ∧ rs.length ≤ 400 ∧ ∀ H' v d, But sp H H' → Spr H' sp → d ∈ noSeq (rs.map dR) → Rp H' v d → Q v H'
theorem ok_law_no_sequence (D : Df K mg "_law_no_sequence" s_law_no_sequence) (T : Tx mg) (G_law_draw : Has P w K mg base 1 "_law_draw" ["spring", "many"] sp_law_draw) : Has P w K mg base 2 "_law_no_sequence" ["spring", "sequence"] sp_law_no_sequence := by
  refine has_of D sc_law_no_sequence (fun _ _ _ _ _ _ us hl => match us, hl with | [_, _], _ => rfl) (fun vs H Q E h => ?_) (fun f cdv A outer s₀ H vs Q E hr h => ?_)
  · obtain ⟨_, _, _, rfl, _⟩ := h
    rfl
  · obtain ⟨sp, a, rs, rfl, hz, hR, l4, q⟩ := h
    have hA := rp_runs hR
    have lr : (rs.map dR).length ≤ 400 := by rw [List.length_map]; exact l4
    have cr : Dat.calms (noSeq (rs.map dR)) = true := by
      have c1 := calms_runs rs [.tup [.str "b", .int (-1)]] rfl
      have c2 := three_runs rs "b" (-1)
      have cm : Dat.calm (.lst (rs.map dR ++ [.tup [.str "b", .int (-1)]])) = true := by
        rw [Dat.calm, c2, c1]
        rfl
      unfold noSeq
      rw [calms_app, calms_app, Bool.and_eq_true, Bool.and_eq_true]
      refine ⟨⟨by decide +kernel, ?_⟩, by decide +kernel⟩
      show (Dat.calm (.lst _) && (Dat.calm (.lst _) && Dat.calms _)) = true
      rw [cm]
      decide +kernel
    generalize hX : rs.map dR = X at *
    refine ⟨_, (pss_cons (ps_set (i := 2) sc_law_no_sequence.nd rfl (by first | exact Or.inl rfl | exact Or.inr rfl) (pe_lst (pa_cons pe_non (pa_cons pe_int (pa_cons pe_str (pa_cons pe_dnewK (pa_cons (pe_lst (pa_cons pe_non pa_nil)) (pa_cons (pe_lst (pa_cons (pe_tup (pa_cons pe_str (pa_cons pe_int pa_nil))) pa_nil)) (pa_cons (pe_lst (pa_cons (pe_tup (pa_cons pe_str (pa_cons (pe_op op_add (pe_op op_pow pe_int pe_int) pe_int) pa_nil))) pa_nil)) (pa_cons (pe_lst (pa_cons (pe_tup (pa_cons pe_str (pa_cons pe_bl pa_nil))) pa_nil)) (pa_cons (pe_lst (pa_cons (pe_tup (pa_cons pe_str (pa_cons pe_str pa_nil))) pa_nil)) (pa_cons (pe_lst (pa_cons (pe_tup (pa_cons pe_str (pa_cons pe_int pa_nil))) pa_nil)) pa_nil))))))))))))
    (pss_cons (ps_set (i := 2) sc_law_no_sequence.nd rfl (by first | exact Or.inl rfl | exact Or.inr rfl) (pe_op op_cat (pv 2) (pe_lst (pa_cons (pe_lst (pa_cons (pe_tup (pa_cons pe_str (pa_cons pe_int pa_nil))) pa_nil)) (pa_cons (pe_lst (pa_cons (pe_tup (pa_cons pe_str (pa_cons pe_int pa_nil))) pa_nil)) (pa_cons (pe_lst (pa_cons (pe_tup (pa_cons pe_str (pa_cons pe_int pa_nil))) (pa_cons (pe_tup (pa_cons pe_str (pa_cons pe_int pa_nil))) pa_nil))) (pa_cons (pe_lst (pa_cons (pe_tup (pa_cons pe_str pa_nil)) pa_nil)) (pa_cons (pe_lst (pa_cons (pe_tup (pa_cons pe_str (pa_cons pe_int (pa_cons pe_int pa_nil)))) pa_nil)) (pa_cons (pe_tup (pa_cons pe_str (pa_cons pe_int pa_nil))) (pa_cons pe_bl (pa_cons (pe_lst (pa_cons (pe_tup pa_nil) pa_nil)) pa_nil)))))))))))
    (pss_cons (ps_set (i := 2) sc_law_no_sequence.nd rfl (by first | exact Or.inl rfl | exact Or.inr rfl) (pe_op op_cat (pv 2) (pe_lst (pa_cons (pe_op op_cat (pe_op op_rep (pe_lst (pa_cons (pe_tup (pa_cons pe_str (pa_cons pe_int pa_nil))) (pa_cons (pe_tup (pa_cons pe_str (pa_cons pe_int pa_nil))) pa_nil))) pe_int) (pe_lst (pa_cons (pe_tup (pa_cons pe_str (pa_cons pe_int pa_nil))) pa_nil))) (pa_cons (pe_op op_cat (pv 1) (pe_lst (pa_cons (pe_tup (pa_cons pe_str (pa_cons (pe_un un_neg pe_int) pa_nil))) pa_nil))) (pa_cons (pe_lst (pa_cons (pe_tup (pa_cons pe_int (pa_cons pe_int pa_nil))) pa_nil)) (pa_cons (pe_lst (pa_cons (pe_tup (pa_cons pe_str (pa_cons pe_int pa_nil))) pa_nil)) pa_nil)))))))
    (pss_one (ps_ret (pe_ix ix_list (pe_op op_cat (pv 2) (pe_lst (pa_cons (pe_lst (pa_cons (pe_lst (pa_cons pe_str (pa_cons pe_non pa_nil))) pa_nil)) pa_nil))) (pe_callH G_law_draw (hr.mono (by omega)) (by rfl) (pa_cons (pv 0) (pa_cons pe_int pa_nil))) (fun _ _ => rfl))))))), ?_⟩
    refine lit_set (d := .lst [.non, .int 0, .str "a", .dic, .lst [.non], .lst [.tup [.str "a", .int 0]], .lst [.tup [.str "a", .int ((10 : Int) ^ ((30 : Int).toNat) + 1)]], .lst [.tup [.str "a", .bl true]], .lst [.tup [.str "a", .str "1"]], .lst [.tup [.str "A", .int 1]]]) (lit_lst (lits_cons lit_non (lits_cons lit_int (lits_cons lit_str (lits_cons lit_dic (lits_cons (lit_lst (lits_cons lit_non lits_nil) (Nat.le_of_ble_eq_true rfl)) (lits_cons (lit_lst (lits_cons (lit_tup (lits_cons lit_str (lits_cons lit_int lits_nil)) (Nat.le_of_ble_eq_true rfl)) lits_nil) (Nat.le_of_ble_eq_true rfl)) (lits_cons (lit_lst (lits_cons (lit_tup (lits_cons lit_str (lits_cons (lit_val (v := .int ((10 : Int) ^ ((30 : Int).toNat) + 1)) (fun H Q q => ⟨_, _, rfl, rfl, ⟨by decide, by decide, by decide⟩, _, _, rfl, rfl, q⟩) (fun H => .int _)) lits_nil)) (Nat.le_of_ble_eq_true rfl)) lits_nil) (Nat.le_of_ble_eq_true rfl)) (lits_cons (lit_lst (lits_cons (lit_tup (lits_cons lit_str (lits_cons lit_bl lits_nil)) (Nat.le_of_ble_eq_true rfl)) lits_nil) (Nat.le_of_ble_eq_true rfl)) (lits_cons (lit_lst (lits_cons (lit_tup (lits_cons lit_str (lits_cons lit_str lits_nil)) (Nat.le_of_ble_eq_true rfl)) lits_nil) (Nat.le_of_ble_eq_true rfl)) (lits_cons (lit_lst (lits_cons (lit_tup (lits_cons lit_str (lits_cons lit_int lits_nil)) (Nat.le_of_ble_eq_true rfl)) lits_nil) (Nat.le_of_ble_eq_true rfl)) lits_nil)))))))))) (Nat.le_of_ble_eq_true rfl)) (fun H1 v1 s1 r1 => ?_)
    refine lit_set (lit_cat (lit_var rfl r1) (lit_lst (lits_cons (lit_lst (lits_cons (lit_tup (lits_cons lit_str (lits_cons lit_int lits_nil)) (Nat.le_of_ble_eq_true rfl)) lits_nil) (Nat.le_of_ble_eq_true rfl)) (lits_cons (lit_lst (lits_cons (lit_tup (lits_cons lit_str (lits_cons lit_int lits_nil)) (Nat.le_of_ble_eq_true rfl)) lits_nil) (Nat.le_of_ble_eq_true rfl)) (lits_cons (lit_lst (lits_cons (lit_tup (lits_cons lit_str (lits_cons lit_int lits_nil)) (Nat.le_of_ble_eq_true rfl)) (lits_cons (lit_tup (lits_cons lit_str (lits_cons lit_int lits_nil)) (Nat.le_of_ble_eq_true rfl)) lits_nil)) (Nat.le_of_ble_eq_true rfl)) (lits_cons (lit_lst (lits_cons (lit_tup (lits_cons lit_str lits_nil) (Nat.le_of_ble_eq_true rfl)) lits_nil) (Nat.le_of_ble_eq_true rfl)) (lits_cons (lit_lst (lits_cons (lit_tup (lits_cons lit_str (lits_cons lit_int (lits_cons lit_int lits_nil))) (Nat.le_of_ble_eq_true rfl)) lits_nil) (Nat.le_of_ble_eq_true rfl)) (lits_cons (lit_tup (lits_cons lit_str (lits_cons lit_int lits_nil)) (Nat.le_of_ble_eq_true rfl)) (lits_cons lit_bl (lits_cons (lit_lst (lits_cons (lit_tup lits_nil (Nat.le_of_ble_eq_true rfl)) lits_nil) (Nat.le_of_ble_eq_true rfl)) lits_nil)))))))) (Nat.le_of_ble_eq_true rfl)) (Nat.le_of_ble_eq_true rfl)) (fun H2 v2 s2 r2 => ?_)
    refine lit_set (lit_cat (lit_var rfl r2) (lit_lst (lits_cons (lit_cat (lit_rep (lit_lst (lits_cons (lit_tup (lits_cons lit_str (lits_cons lit_int lits_nil)) (Nat.le_of_ble_eq_true rfl)) (lits_cons (lit_tup (lits_cons lit_str (lits_cons lit_int lits_nil)) (Nat.le_of_ble_eq_true rfl)) lits_nil)) (Nat.le_of_ble_eq_true rfl)) (by decide) (by decide) (Nat.le_of_ble_eq_true rfl)) (lit_lst (lits_cons (lit_tup (lits_cons lit_str (lits_cons lit_int lits_nil)) (Nat.le_of_ble_eq_true rfl)) lits_nil) (Nat.le_of_ble_eq_true rfl)) (Nat.le_of_ble_eq_true rfl)) (lits_cons (lit_cat (lit_var rfl (hA.same (s1.trans s2))) (lit_lst (lits_cons (lit_tup (lits_cons lit_str (lits_cons (lit_val (v := .int (-1)) (fun H Q q => ⟨1, rfl, q⟩) (fun H => .int _)) lits_nil)) (Nat.le_of_ble_eq_true rfl)) lits_nil) (Nat.le_of_ble_eq_true rfl)) (by show X.length + 1 ≤ 1000; omega)) (lits_cons (lit_lst (lits_cons (lit_tup (lits_cons lit_int (lits_cons lit_int lits_nil)) (Nat.le_of_ble_eq_true rfl)) lits_nil) (Nat.le_of_ble_eq_true rfl)) (lits_cons (lit_lst (lits_cons (lit_tup (lits_cons lit_str (lits_cons lit_int lits_nil)) (Nat.le_of_ble_eq_true rfl)) lits_nil) (Nat.le_of_ble_eq_true rfl)) lits_nil)))) (Nat.le_of_ble_eq_true rfl)) (Nat.le_of_ble_eq_true rfl)) (fun H3 v3 s3 r3 => ?_)
    refine lit_retIx (lit_cat (lit_var rfl r3) (lit_lst (lits_cons (lit_lst (lits_cons (lit_lst (lits_cons lit_str (lits_cons lit_non lits_nil)) (Nat.le_of_ble_eq_true rfl)) lits_nil) (Nat.le_of_ble_eq_true rfl)) lits_nil) (Nat.le_of_ble_eq_true rfl)) (Nat.le_of_ble_eq_true rfl)) (fun H4 v4 s4 r4 => ?_)
    have s04 := s1.trans (s2.trans (s3.trans s4))
    refine ⟨_, rfl, sp, 23, rfl, hz.same s04, by decide, by decide, fun H5 r b5 z5 r0 r1' => ?_⟩
    have c4 : (Dat.lst (noSeq X)).calm = true := by
      rw [Dat.calm, cr]
      rfl
    have r5 := Rp.butS (hz.same s04) b5 r4 c4
    have i23 : r.toNat < (noSeq X).length := by
      show r.toNat < 23
      omega
    obtain ⟨p, xs, x, rfl, hxs, ex, hx⟩ := rp_at r5 r0 i23
    exact ⟨p, xs, r, x, rfl, rfl, .of hxs, ex, q H5 x _ ((sb s04).trans b5) z5 (List.getElem_mem i23) hx⟩
end
end UP

set_option Elab.async false
set_option linter.all false
set_option maxRecDepth 100000
set_option maxHeartbeats 4000000
namespace UP
open PySem PySem.Spec PyProof.Rows L2
/-! ### what the menus hold -/
def Dat.fitB : Dat → Bool
  | .str z => decide (z.length ≤ 4000)
  | _ => true
def Dat.fit2B (d : Dat) : Bool := match d.two with
  | some (x, _) => x.fitB
  | none => true
def Dat.fitsB (d : Dat) : Bool := match d.parts with
  | some l => decide (l.length ≤ 100000) && l.all Dat.fit2B
  | none => true
theorem fitB_ok {d : Dat} (h : d.fitB = true) : d.fit := by
  cases d with
  | str z =>
    have h : decide (z.length ≤ 4000) = true := h
    show z.length ≤ 4000
    exact of_decide_eq_true h
  | _ => exact trivial
theorem fit2B_ok {d : Dat} (h : d.fit2B = true) : d.fit2 := by
  intro x y e
  unfold Dat.fit2B at h
  rw [e] at h
  exact fitB_ok h
theorem fitsB_ok {d : Dat} (h : d.fitsB = true) : d.fits := by
  intro l e
  unfold Dat.fitsB at h
  rw [e] at h
  have h : (decide (l.length ≤ 100000) && l.all Dat.fit2B) = true := h
  rw [Bool.and_eq_true] at h
  exact ⟨of_decide_eq_true h.1, fun x hx => fit2B_ok (List.all_eq_true.mp h.2 x hx)⟩
theorem noSeq_mem {X : List Dat} {d : Dat} (h : d ∈ noSeq X) : d ∈ noSeq [] ∨ d = .lst (X ++ [.tup [.str "b", .int (-1)]]) := by
  unfold noSeq at h ⊢
  rcases List.mem_append.mp h with h | h
  · rcases List.mem_append.mp h with h | h
    · exact .inl (List.mem_append.mpr (.inl (List.mem_append.mpr (.inl h))))
    · rcases List.mem_cons.mp h with e | h
      · exact .inl (List.mem_append.mpr (.inl (List.mem_append.mpr (.inr (List.mem_cons.mpr (.inl e))))))
      · rcases List.mem_cons.mp h with e | h
        · exact .inr e
        · exact .inl (List.mem_append.mpr (.inl (List.mem_append.mpr (.inr (List.mem_cons_of_mem _ (List.mem_cons_of_mem _ h))))))
  · exact .inl (List.mem_append.mpr (.inr h))
theorem noSeq_nil : ∀ d ∈ noSeq [], d.seq = false ∧ d.fitsB = true := by decide +kernel
theorem noState_fit : ∀ d ∈ noState, d.state = false ∧ d.fit2B = true := by decide +kernel
theorem noSeq_bad {rs : List Run} (k : ∀ r ∈ rs, KindOk r.1) (l : rs.length ≤ 400) {d : Dat} (h : d ∈ noSeq (rs.map dR)) : d.seq = false ∧ d.fits := by
  rcases noSeq_mem h with h | e
  · exact ⟨(noSeq_nil d h).1, fitsB_ok (noSeq_nil d h).2⟩
  · subst e
    refine ⟨?_, fitsB_ok ?_⟩
    · show (decide _ && ((rs.map dR ++ [Dat.tup [.str "b", .int (-1)]]).all Dat.run && _)) = false
      rw [List.all_append, show ([Dat.tup [.str "b", .int (-1)]] : List Dat).all Dat.run = false by decide +kernel, Bool.and_false, Bool.false_and, Bool.and_false]
    · show (decide ((rs.map dR ++ [Dat.tup [.str "b", .int (-1)]]).length ≤ 100000) && (rs.map dR ++ [Dat.tup [.str "b", .int (-1)]]).all Dat.fit2B) = true
      rw [Bool.and_eq_true]
      refine ⟨decide_eq_true (by rw [List.length_append, List.length_map]; show rs.length + 1 ≤ _; omega), ?_⟩
      rw [List.all_append, Bool.and_eq_true]
      refine ⟨List.all_eq_true.mpr fun x hx => ?_, by decide +kernel⟩
      obtain ⟨r, hr, rfl⟩ := List.mem_map.mp hx
      show decide (r.1.length ≤ 4000) = true
      have := (k r hr).2.1
      exact decide_eq_true (by omega)
/-! ### the size of a repr -/
structure Nis (w n : Nat) (d : PyData) : Prop where
  dep : d.depth ≤ n
  sho : d.showable = true
  lea : d.leavesShort 100 = true
  wei : d.weight ≤ w
def nisB (w n : Nat) (d : PyData) : Bool := decide (d.depth ≤ n) && (d.showable && (d.leavesShort 100 && decide (d.weight ≤ w)))
theorem nis_of {w n : Nat} {d : PyData} (h : nisB w n d = true) : Nis w n d := by
  unfold nisB at h
  rw [Bool.and_eq_true, Bool.and_eq_true, Bool.and_eq_true] at h
  exact ⟨of_decide_eq_true h.1, h.2.1, h.2.2.1, of_decide_eq_true h.2.2.2⟩
theorem Nis.fits {w n : Nat} {d : PyData} (h : Nis w n d) (hw : w ≤ 150000) (hn : n ≤ 64) : d.showable = true ∧ d.depth ≤ 64 ∧ d.shown.length ≤ sizeLine := by
  refine ⟨h.sho, Nat.le_trans h.dep hn, ?_⟩
  have h1 := PyData.shown_le 100 (by decide) d h.lea
  have h2 := h.wei
  have h3 : d.shown.length ≤ 16000000 := by omega
  exact Nat.le_trans h3 (by decide)
theorem Nis.mono {w w' n n' : Nat} {d : PyData} (h : Nis w n d) (h1 : w ≤ w') (h2 : n ≤ n') : Nis w' n' d := ⟨Nat.le_trans h.dep h2, h.sho, h.lea, Nat.le_trans h.wei h1⟩
theorem nis_state : ∀ d ∈ noState, nisB 20000 5 d.py = true := by decide +kernel
theorem nis_seq : ∀ d ∈ noSeq [], nisB 20000 5 d.py = true := by decide +kernel
end UP

set_option Elab.async false
set_option linter.all false
set_option maxRecDepth 100000
set_option maxHeartbeats 4000000
namespace UP
open PySem PySem.Spec PyProof.Rows L2
theorem nis_non : Nis 0 0 .none := ⟨Nat.le_refl _, rfl, rfl, Nat.le_refl _⟩
theorem nis_str {s : Str} (h : KindOk s) : Nis 8 0 (.str s) := by
  refine ⟨Nat.le_refl _, rfl, ?_, h.2.1⟩
  rw [PyData.leavesShort, List.all_eq_true]
  intro c hc
  have := h.2.2 c hc
  exact decide_eq_true (by omega)
theorem nis_int {i : Int} (h : i.natAbs < 10 ^ 60) : Nis 201 0 (.int i) := by
  have h2 : i.natAbs < 2 ^ 200 := Nat.lt_of_lt_of_le h (by decide)
  have h3 : i.natAbs.log2 < 200 := by
    by_cases z : i.natAbs = 0
    · rw [z]
      decide
    · exact (Nat.log2_lt z).mpr h2
  refine ⟨Nat.le_refl _, ?_, ?_, ?_⟩
  · rw [PyData.showable]
    exact decide_eq_true (by omega)
  · rw [PyData.leavesShort]
    refine decide_eq_true ?_
    have e := int_text_length_le10 (k := 60) (by decide) h
    show (Str.ofString (toString i)).length ≤ 100
    rw [PySem.ofString_length]
    omega
  · rw [PyData.weight]
    split <;> omega
theorem nis_items {w n : Nat} : ∀ {ds : List PyData}, (∀ d ∈ ds, Nis w n d) → PyData.depthAll ds ≤ n ∧ PyData.showableAll ds = true ∧ PyData.leavesShortAll 100 ds = true ∧ PyData.weightAll ds ≤ (w + 1) * ds.length
  | [], _ => ⟨Nat.zero_le _, rfl, rfl, Nat.zero_le _⟩
  | d :: t, h => by
    have h1 := h d (List.mem_cons_self ..)
    obtain ⟨a, b, c, e⟩ := nis_items (ds := t) fun x hx => h x (List.mem_cons_of_mem _ hx)
    refine ⟨?_, ?_, ?_, ?_⟩
    · rw [PyData.depthAll]
      exact Nat.max_le.mpr ⟨h1.dep, a⟩
    · rw [PyData.showableAll, h1.sho, b]
      rfl
    · rw [PyData.leavesShortAll, h1.lea, c]
      rfl
    · rw [PyData.weightAll, List.length_cons, Nat.mul_add]
      have := h1.wei
      omega
theorem nis_list {w n : Nat} {ds : List PyData} (h : ∀ d ∈ ds, Nis w n d) : Nis ((w + 1) * ds.length) (n + 1) (.list ds) := by
  obtain ⟨b, c, e, f⟩ := nis_items h
  exact ⟨by rw [PyData.depth]; omega, by rw [PyData.showable]; exact c, by rw [PyData.leavesShort]; exact e, by rw [PyData.weight]; exact f⟩
theorem nis_tup {w n : Nat} {ds : List PyData} (h : ∀ d ∈ ds, Nis w n d) : Nis ((w + 1) * ds.length) (n + 1) (.tuple ds) := by
  obtain ⟨b, c, e, f⟩ := nis_items h
  exact ⟨by rw [PyData.depth]; omega, by rw [PyData.showable]; exact c, by rw [PyData.leavesShort]; exact e, by rw [PyData.weight]; exact f⟩
theorem nis_run {r : Run} (k : KindOk r.1) (c : r.2.natAbs < 10 ^ 60) : Nis 404 1 (dR r).py := by
  have := nis_tup (w := 201) (n := 0) (ds := [.str r.1, .int r.2]) fun d hd => by
    rcases List.mem_cons.mp hd with e | e
    · rw [e]
      exact (nis_str k).mono (by decide) (Nat.le_refl _)
    · rw [List.mem_singleton.mp e]
      exact nis_int c
  exact this
theorem pys_map : ∀ (l : List Dat), Dat.pys l = l.map Dat.py
  | [] => rfl
  | x :: t => congrArg (x.py :: ·) (pys_map t)
theorem nis_lst {w n : Nat} {l : List Dat} (h : ∀ d ∈ l, Nis w n d.py) : Nis ((w + 1) * l.length) (n + 1) (Dat.lst l).py := by
  have := nis_list (w := w) (n := n) (ds := Dat.pys l) fun d hd => by
    rw [pys_map] at hd
    obtain ⟨x, hx, rfl⟩ := List.mem_map.mp hd
    exact h x hx
  rw [pys_map, List.length_map, ← pys_map] at this
  exact this
theorem nis_runs {rs : List Run} (k : ∀ r ∈ rs, KindOk r.1 ∧ r.2.natAbs < 10 ^ 60) (l : rs.length ≤ 40) : Nis 20000 5 (Dat.lst (rs.map dR)).py := by
  have := nis_lst (w := 404) (n := 1) (l := rs.map dR) fun d hd => by
    obtain ⟨r, hr, rfl⟩ := List.mem_map.mp hd
    exact nis_run (k r hr).1 (k r hr).2
  rw [List.length_map] at this
  exact this.mono (by omega) (by decide)
theorem nis_no {rs : List Run} (k : ∀ r ∈ rs, KindOk r.1 ∧ r.2.natAbs < 10 ^ 60) (l : rs.length ≤ 40) {d : Dat} (h : d ∈ noSeq (rs.map dR)) : Nis 20000 5 d.py := by
  rcases noSeq_mem h with h | e
  · exact nis_of (nis_seq d h)
  · subst e
    have := nis_lst (w := 404) (n := 1) (l := rs.map dR ++ [.tup [.str "b", .int (-1)]]) fun d hd => by
      rcases List.mem_append.mp hd with z | z
      · obtain ⟨r, hr, rfl⟩ := List.mem_map.mp z
        exact nis_run (k r hr).1 (k r hr).2
      · rw [List.mem_singleton.mp z]
        exact nis_run (r := ("b", -1)) (by decide +kernel) (by decide)
    rw [List.length_append, List.length_map] at this
    exact this.mono (by show 405 * (rs.length + 1) ≤ _; omega) (by decide)
def stD : Option Run → Dat
  | none => .non
  | some r => dR r
theorem rp_st {H : Hp} {v : V} {st : Option Run} (h : StV H v st) : Rp H v (stD st) := by
  cases st with
  | none =>
    cases h
    exact .non
  | some r =>
    obtain ⟨t, rfl, ht⟩ := h
    exact .tup ht (.cons (.str _) (.cons (.int _) .nil))
theorem nis_st {st : Option Run} (k : ∀ r, st = some r → KindOk r.1 ∧ r.2.natAbs < 10 ^ 60) : Nis 20000 5 (stD st).py := by
  cases st with
  | none => exact nis_non.mono (by decide) (by decide)
  | some r => exact (nis_run (k r rfl).1 (k r rfl).2).mono (by decide) (by decide)
theorem kindB_ok {z : Str} (h : KindOk z) : kindB z = true := by
  unfold kindB
  rw [Bool.and_eq_true]
  exact ⟨decide_eq_true ⟨by have := h.1; omega, by have := h.2.1; omega⟩, List.all_eq_true.mpr fun c hc => decide_eq_true (h.2.2 c hc)⟩
theorem st_good {st : Option Run} (h : StOk st) : (stD st).state = true ∧ (stD st).fit2B = true := by
  cases st with
  | none => exact ⟨rfl, rfl⟩
  | some r =>
    obtain ⟨k, c⟩ := h r rfl
    refine ⟨?_, ?_⟩
    · show (kindB r.1 && decide (1 ≤ r.2)) = true
      rw [kindB_ok k, decide_eq_true c]
      rfl
    · show decide (r.1.length ≤ 4000) = true
      have := k.2.1
      exact decide_eq_true (by omega)
theorem rr_dR (r : Run) : (dR r).rr = r := rfl
theorem runs_dR (rs : List Run) : (Dat.lst (rs.map dR)).runs = rs := by
  show (rs.map dR).map Dat.rr = rs
  rw [List.map_map]
  exact List.map_id _
theorem seq_good {rs : List Run} (ok : SeqOk rs) : (Dat.lst (rs.map dR)).seq = true ∧ (Dat.lst (rs.map dR)).fits := by
  refine ⟨?_, fun l e => ?_⟩
  · show (decide (((rs.map dR).length : Int) ≤ 400) && ((rs.map dR).all Dat.run && ((List.range ((rs.map dR).length - 1)).map (stepB (rs.map dR))).all id)) = true
    rw [Bool.and_eq_true, Bool.and_eq_true]
    refine ⟨decide_eq_true (by rw [List.length_map]; have := ok.1; omega), List.all_eq_true.mpr fun x hx => ?_, List.all_eq_true.mpr fun x hx => ?_⟩
    · obtain ⟨r, hr, rfl⟩ := List.mem_map.mp hx
      have o := ok.2.1 r hr
      show (kindB r.1 && decide (1 ≤ r.2 ∧ r.2 ≤ 1000000000000000000000000000000)) = true
      rw [kindB_ok o.1, decide_eq_true o.2]
      rfl
    · obtain ⟨i, hi, rfl⟩ := List.mem_map.mp hx
      have hi := List.mem_range.mp hi
      rw [List.length_map] at hi
      have g : ∀ j : Nat, j < rs.length → ∃ r, rs[j]? = some r ∧ keyAt (rs.map dR) j = r.1 := fun j hj => by
        refine ⟨rs[j], List.getElem?_eq_getElem hj, ?_⟩
        unfold keyAt
        rw [List.getElem?_map, List.getElem?_eq_getElem hj]
        rfl
      obtain ⟨r1, e1, k1⟩ := g i (by omega)
      obtain ⟨r2, e2, k2⟩ := g (i + 1) (by omega)
      show (!decide (V.str (keyAt (rs.map dR) i) = V.str (keyAt (rs.map dR) (i + 1)))) = true
      rw [k1, k2, decide_eq_false (fun z => ok.2.2 i r1 r2 e1 e2 (V.str.inj z))]
      rfl
  · have e : rs.map dR = l := Option.some.inj e
    subst e
    refine ⟨by rw [List.length_map]; have := ok.1; omega, fun x hx => ?_⟩
    obtain ⟨r, hr, rfl⟩ := List.mem_map.mp hx
    refine fit2B_ok ?_
    show decide (r.1.length ≤ 4000) = true
    have := (ok.2.1 r hr).1.2.1
    exact decide_eq_true (by omega)
end UP

set_option Elab.async false
set_option linter.all false
set_option maxRecDepth 100000
set_option maxHeartbeats 4000000
namespace UP
open PySem PySem.Spec PyProof.Rows L2
theorem room70 {A : Around} {k : Nat} (hr : Room k A) : A.units + 70 < cLine := by
  have := hr.un
  omega
theorem calm_nil : ∀ d ∈ noSeq [], d.calm = true := by decide +kernel
theorem calm_seq (rs : List Run) : (Dat.lst (rs.map dR)).calm = true := by
  have h := calms_runs rs [] rfl
  rw [List.append_nil] at h
  rw [Dat.calm, h]
  cases rs <;> rfl
theorem calm_no {rs : List Run} {d : Dat} (h : d ∈ noSeq (rs.map dR)) : d.calm = true := by
  rcases noSeq_mem h with h | e
  · exact calm_nil d h
  · rw [e, Dat.calm, three_runs, calms_runs rs _ rfl]
    rfl
theorem inI_no {k lo hi : Int} (h : ¬ (lo ≤ k ∧ k ≤ hi)) : (Dat.int k).inI lo hi = false := by
  show decide (lo ≤ k ∧ k ≤ hi) = false
  exact decide_eq_false h
theorem q30 : (10 : Int) ^ ((30 : Int).toNat) = 1000000000000000000000000000000 := by decide +kernel
theorem q39 : (10 : Int) ^ ((39 : Int).toNat) = 1000000000000000000000000000000000000000 := by decide +kernel
def oddP (n : Int) : List Dat := [.int (-1), .int (n + 1), .int ((10 : Int) ^ ((39 : Int).toNat)), .bl true, .str "0", .lst [.int 0], .bl false, .int (-((10 : Int) ^ ((30 : Int).toNat)))]
theorem noPr_none {d : Dat} (h : d.parts = none) : d.noPr := .inl h
theorem odd_bad {n m : Int} (rs : List Run) (h0 : 0 ≤ n) (h1 : n ≤ 10000000000000000000000000000000) (m1 : m ≤ n) : ∀ d ∈ oddP n, d.inI 0 (n - 1) = false ∧ (d.mom rs).inI 0 n = false ∧ d.inI 0 (m - 1) = false ∧ d.noPr := by
  intro d hd
  unfold oddP at hd
  rw [q39, q30] at hd
  simp only [List.mem_cons, List.not_mem_nil, or_false] at hd
  rcases hd with e | e | e | e | e | e | e | e
  · rw [e]; exact ⟨inI_no (by omega), inI_no (by omega), inI_no (by omega), .inl rfl⟩
  · rw [e]; exact ⟨inI_no (by omega), inI_no (by omega), inI_no (by omega), .inl rfl⟩
  · rw [e]; exact ⟨inI_no (by omega), inI_no (by omega), inI_no (by omega), .inl rfl⟩
  · rw [e]; exact ⟨rfl, rfl, rfl, .inl rfl⟩
  · rw [e]; exact ⟨rfl, rfl, rfl, .inl rfl⟩
  · rw [e]
    refine ⟨rfl, rfl, rfl, .inr ⟨_, rfl, by simp, by decide, fun x hx => ?_⟩⟩
    rw [List.mem_singleton.mp hx]
    rfl
  · rw [e]; exact ⟨rfl, rfl, rfl, .inl rfl⟩
  · rw [e]; exact ⟨inI_no (by omega), inI_no (by omega), inI_no (by omega), .inl rfl⟩
theorem g_step {i : Nat} {v : V} {σ : L2.St} {H : Hp} {x : TS} {D : Ends} (h : x D (σ.set i (some v)) H) : gName i v σ H (Ends.nx { D with nx := x D }) := h
theorem gen_heap {T A : Hp → Prop} {h : Hp} (k : ∀ H', A H' → T H') (a : A h) : T h := k h a
/-! ### rows -/
def RwV (H0 H : Hp) (x : V) : Prop := ∃ (t : Addr) (k : Int) (one two : V) (d m : Dat), x = .ref t ∧ H t = some (.tup [.int k, one, two, .str (dueP k d m)]) ∧ 0 ≤ k ∧ k < 6 ∧ Rp H0 one d ∧ d.fits ∧ Rp H0 two m ∧ (k = 5 → m.noPr)
theorem RwV.same {H0 H H' : Hp} {x : V} (s : Same H H') (h : RwV H0 H x) : RwV H0 H' x := by
  obtain ⟨t, k, one, two, d, m, e, ht, r⟩ := h
  exact ⟨t, k, one, two, d, m, e, s _ _ ht, r⟩
theorem RwV.grow {H0 H : Hp} {D : Addr} {acc acc' : List V} {x : V} (hD : H D = some (.lst acc)) (h : RwV H0 H x) : RwV H0 (upd H D (.lst acc')) x := by
  obtain ⟨t, k, one, two, d, m, e, ht, r⟩ := h
  refine ⟨t, k, one, two, d, m, e, ?_, r⟩
  rw [upd_ne (ne_of ht hD (by intro q; cases q))]
  exact ht
theorem rw_mk {H0 H : Hp} {u : Addr} {k : Int} {one two : V} {due : Str} {d m : Dat} (e : dueP k d m = due) (k0 : 0 ≤ k) (k1 : k < 6) (h1 : Rp H0 one d) (f : d.fits) (h2 : Rp H0 two m) (np : k = 5 → m.noPr) : RwV H0 (upd H u (.tup [.int k, one, two, .str due])) (.ref u) :=
  ⟨u, k, one, two, d, m, rfl, by rw [upd_same, e], k0, k1, h1, f, h2, np⟩
def Rows (H0 H : Hp) (R : Addr) (n : Nat) : Prop := ∃ xs, H R = some (.lst xs) ∧ xs.length ≤ n ∧ ∀ x ∈ xs, RwV H0 H x
theorem Rows.mono {H0 H : Hp} {R : Addr} {n m : Nat} (h : Rows H0 H R n) (l : n ≤ m) : Rows H0 H R m := by
  obtain ⟨xs, a, b, c⟩ := h
  exact ⟨xs, a, Nat.le_trans b l, c⟩
theorem rows_add {H0 H Ht : Hp} {N R2 : Addr} {xs ys : List V} {n m : Nat} (hx : ∀ x ∈ xs, RwV H0 H x) (lx : xs.length ≤ n) (s : Same H Ht) (hy : ∀ y ∈ ys, RwV H0 Ht y) (ly : ys.length ≤ m) (nN : Ht N = none) (nR : (upd Ht N (.lst ys)) R2 = none) :
    Same H (upd (upd Ht N (.lst ys)) R2 (.lst (xs ++ ys))) ∧ Rows H0 (upd (upd Ht N (.lst ys)) R2 (.lst (xs ++ ys))) R2 (n + m) := by
  have s2 := (same_upd (o := .lst ys) nN).trans (same_upd (o := .lst (xs ++ ys)) nR)
  refine ⟨s.trans s2, xs ++ ys, upd_same, by rw [List.length_append]; omega, fun x h => ?_⟩
  rcases List.mem_append.mp h with z | z
  · exact (hx x z).same (s.trans s2)
  · exact (hy x z).same s2
theorem mem_rep {α : Type} {x : α} {l : List α} : ∀ {n : Nat}, x ∈ (List.replicate n l).flatten → x ∈ l ∧ 1 ≤ n
  | 0, h => by cases h
  | n + 1, h => by
    rw [List.replicate_succ, List.flatten_cons] at h
    rcases List.mem_append.mp h with z | z
    · exact ⟨z, by omega⟩
    · exact ⟨(mem_rep z).1, by omega⟩
/-! ### the whole is its own part -/
theorem cut_all (e : Int) : ∀ (l : List Run) (b : Int), 0 ≤ b → (∀ r ∈ l, 1 ≤ r.2) → b + lenR l ≤ e → cutR 0 e b l = l
  | [], _, _, _, _ => rfl
  | r :: t, b, b0, k, h => by
    have k1 := k r (List.mem_cons_self ..)
    rw [lenR_cons] at h
    have lt : ∀ l : List Run, (∀ r ∈ l, 1 ≤ r.2) → 0 ≤ lenR l := by
      intro l
      induction l with
      | nil => intro _; exact Int.le_refl _
      | cons x u ih =>
        intro k
        have h1 := k x (List.mem_cons_self ..)
        have h2 := ih fun y hy => k y (List.mem_cons_of_mem _ hy)
        rw [lenR_cons]
        omega
    have l0 := lt t fun x hx => k x (List.mem_cons_of_mem _ hx)
    show pieceR b 0 e r ++ cutR 0 e (b + r.2) t = r :: t
    rw [cut_all e t (b + r.2) (by omega) (fun x hx => k x (List.mem_cons_of_mem _ hx)) (by omega)]
    have es : sizeR b 0 e r.2 = r.2 := by
      unfold sizeR
      split <;> split <;> omega
    unfold pieceR
    rw [es, if_pos (by omega)]
    rfl
theorem pc_all {rs : List Run} (k : ∀ r ∈ rs, 1 ≤ r.2) : pcR rs (lenR rs) = pnR rs := by
  unfold pcR pnR
  rw [cut_all _ rs 0 (Int.le_refl _) k (by omega)]
theorem num_pos {st : Option Run} (h : PosO st) : 0 ≤ numR st := by
  cases st with
  | none => exact Int.le_refl _
  | some r =>
    have := h r rfl
    show 0 ≤ r.2
    omega
theorem pos_runs : ∀ (rs : List Run) (st : Option Run), PosO st → (∀ r ∈ rs, 1 ≤ r.2) → PosO (stR rs st)
  | [], _, h, _ => h
  | r :: t, st, h, k => pos_runs t (stepR st r.1 r.2) (num_step h (k r (List.mem_cons_self ..))).2.2.2.2 fun x hx => k x (List.mem_cons_of_mem _ hx)
theorem pn_le {rs : List Run} (k : ∀ r ∈ rs, 1 ≤ r.2) (l : 0 ≤ lenR rs) : pnR rs ≤ lenR rs := by
  have := num_pos (pos_runs rs none (fun r hr => by cases hr) k)
  unfold pnR
  omega
section
variable {P : Program} {w : World} {K : PySem.W.Frag} {mg : Str → Option Value} {base : Heap}
/-! law: slots 0:script 1:spring 2:turn 3:sequence 4:bad 5:length 6:number 7:odd 8:before 9:rows 10:ask 11:one 12:two 13:due 14:kind 15:count -/
abbrev s_law : Stmt := topS 69
theorem sc_law : FnScope ["script", "spring", "turn", "sequence", "bad", "length", "number", "odd", "before", "rows", "ask", "one", "two", "due", "kind", "count"] ["script"] (defScope s_law) := ⟨rfl, rfl, rfl, by decide +kernel, rfl, by decide +kernel, by decide +kernel⟩
def sp_law (K : PySem.W.Frag) : Sp := fun vs H Q _ => ∃ (a : Addr) (ns : List Int), vs = [.ref a] ∧ SqL K H a (ns.map V.int) ∧ ns.length ≤ 63 ∧ ∀ H', Q (.bl true) H'
theorem fn_law {f : Addr} {fd : FuncData} {CS CP : Addr} (F : Fun K "law" "law" s_law f fd) (T : Tx mg)
    (G_law_spring : Has P w K mg base 1 "_law_spring" ["script"] (sp_law_spring K)) (G_law_draw : Has P w K mg base 1 "_law_draw" ["spring", "many"] sp_law_draw)
    (G_law_sequence : Has P w K mg base 2 "_law_sequence" ["spring", "most", "longest"] sp_law_sequence)
    (G_law_no_sequence : Has P w K mg base 2 "_law_no_sequence" ["spring", "sequence"] sp_law_no_sequence) (G_pair_count : HasXD P w K mg base 6 "pair_count" ["sequence", "moment"] 1 (sp_pair_count CS CP))
    (G_law_asked : Has P w K mg base 7 "_law_asked" ["ask", "sequence", "number"] sp_law_asked) :
    FnC P w K mg base f fd ["script"] (sp_law K) := by
  refine fnC_of F sc_law (fun vs H Q E h => ?_) (fun cdv outer s H vs Q E hr h => ?_)
  · obtain ⟨_, _, rfl, _⟩ := h
    rfl
  · obtain ⟨a, ns, rfl, hS, l63, q⟩ := h
    refine ⟨_, (pss_cons (ps_set (i := 1) sc_law.nd rfl (by first | exact Or.inl rfl | exact Or.inr rfl) (pe_callH G_law_spring (hr.mono (by omega)) (by rfl) (pa_cons (pv 0) pa_nil)))
    (pss_cons (ps_for PassesOwn.never rfl (pi_range1 (by rfl) T.n_range (pa_cons (pe_op op_add pe_int (pe_callB (call_min2 rfl) (by rfl) T.n_min (by decide +kernel) (pa_cons (pe_callB call_len_seq (by rfl) T.n_len (by decide +kernel) (pa_cons (pv 0) pa_nil)) (pa_cons pe_int pa_nil)))) pa_nil)) (pg_name (i := 2) sc_law.nd rfl (by first | exact Or.inl rfl | exact Or.inr rfl))
      (pss_cons (ps_set (i := 3) sc_law.nd rfl (by first | exact Or.inl rfl | exact Or.inr rfl) (pe_callH G_law_sequence (hr.mono (by omega)) (by rfl) (pa_cons (pv 1) (pa_cons pe_int (pa_cons (pe_ix ix_list (pe_lst (pa_cons pe_int (pa_cons (pe_op op_pow pe_int pe_int) pa_nil))) (pe_callH G_law_draw (hr.mono (by omega)) (by rfl) (pa_cons (pv 1) (pa_cons pe_int pa_nil))) (fun _ _ => rfl)) pa_nil)))))
    (pss_cons (ps_set (i := 4) sc_law.nd rfl (by first | exact Or.inl rfl | exact Or.inr rfl) (pe_callH G_law_no_sequence (hr.mono (by omega)) (by rfl) (pa_cons (pv 1) (pa_cons (pv 3) pa_nil))))
    (pss_cons (ps_set (i := 5) sc_law.nd rfl (by first | exact Or.inl rfl | exact Or.inr rfl) (pe_callB (cr_sum rfl) (by rfl) T.n_sum (by decide +kernel) (pa_cons (pe_lc (own := [("kind", 14), ("count", 15)]) rfl sc_law.nd (pi_list (pv 3)) (blkOk_by (N := ["script", "spring", "turn", "sequence", "bad", "length", "number", "odd", "before", "rows", "ask", "one", "two", "due", "kind", "count"]) (sc := defScope s_law) (by decide +kernel)) (fun _ _ _ _ _ => (pg_tupK (K := K) (n := 2) rfl rfl (pgs_cons (pg_name (i := 14) sc_law.nd rfl (by first | exact Or.inl rfl | exact Or.inr rfl)) (pgs_cons (pg_name (i := 15) sc_law.nd rfl (by first | exact Or.inl rfl | exact Or.inr rfl)) pgs_nil)))) (fun _ _ _ _ _ => pts_nil) (fun _ _ _ _ _ => (pv 15))) pa_nil)))
    (pss_cons (ps_set (i := 6) sc_law.nd rfl (by first | exact Or.inl rfl | exact Or.inr rfl) (pe_callDH G_pair_count (hr.mono (by omega)) (by rfl) (pa_cons (pv 3) pa_nil)))
    (pss_cons (ps_set (i := 7) sc_law.nd rfl (by first | exact Or.inl rfl | exact Or.inr rfl) (pe_ix ix_list (pe_lst (pa_cons (pe_un un_neg pe_int) (pa_cons (pe_op op_add (pv 5) pe_int) (pa_cons (pe_op op_pow pe_int pe_int) (pa_cons pe_bl (pa_cons pe_str (pa_cons (pe_lst (pa_cons pe_int pa_nil)) (pa_cons pe_bl (pa_cons (pe_un un_neg (pe_op op_pow pe_int pe_int)) pa_nil))))))))) (pe_callH G_law_draw (hr.mono (by omega)) (by rfl) (pa_cons (pv 1) (pa_cons pe_int pa_nil))) (fun _ _ => rfl)))
    (pss_cons (ps_set (i := 8) sc_law.nd rfl (by first | exact Or.inl rfl | exact Or.inr rfl) (pe_callB (call_reprR (by rfl) (room70 hr)) (by rfl) T.n_repr (by decide +kernel) (pa_cons (pe_lst (pa_cons (pv 3) (pa_cons (pv 4) pa_nil))) pa_nil)))
    (pss_cons (ps_set (i := 9) sc_law.nd rfl (by first | exact Or.inl rfl | exact Or.inr rfl) (pe_op op_cat (pe_lc (own := [("ask", 10)]) rfl sc_law.nd (pi_range1 (by rfl) T.n_range (pa_cons pe_int pa_nil)) (blkOk_by (N := ["script", "spring", "turn", "sequence", "bad", "length", "number", "odd", "before", "rows", "ask", "one", "two", "due", "kind", "count"]) (sc := defScope s_law) (by decide +kernel)) (fun _ _ _ _ _ => (pg_name (i := 10) sc_law.nd rfl (by first | exact Or.inl rfl | exact Or.inr rfl))) (fun _ _ _ _ _ => pts_nil) (fun _ _ _ _ _ => (pe_tup (pa_cons (pv 10) (pa_cons (pv 4) (pa_cons (pv 7) (pa_cons pe_str pa_nil))))))) (pe_lst (pa_cons (pe_tup (pa_cons pe_int (pa_cons (pv 3) (pa_cons (pv 7) (pa_cons pe_str pa_nil))))) pa_nil))))
    (pss_cons (ps_set (i := 9) sc_law.nd rfl (by first | exact Or.inl rfl | exact Or.inr rfl) (pe_op op_cat (pv 9) (pe_lst (pa_cons (pe_tup (pa_cons pe_int (pa_cons (pv 3) (pa_cons (pv 5) (pa_cons pe_str pa_nil))))) (pa_cons (pe_tup (pa_cons pe_int (pa_cons (pv 3) (pa_cons pe_non (pa_cons pe_str pa_nil))))) pa_nil)))))
    (pss_cons (ps_set (i := 9) sc_law.nd rfl (by first | exact Or.inl rfl | exact Or.inr rfl) (pe_op op_cat (pv 9) (pe_lst (pa_cons (pe_tup (pa_cons pe_int (pa_cons (pv 3) (pa_cons (pv 7) (pa_cons pe_str pa_nil))))) (pa_cons (pe_tup (pa_cons pe_int (pa_cons (pv 3) (pa_cons (pv 7) (pa_cons pe_str pa_nil))))) pa_nil)))))
    (pss_cons (ps_set (i := 9) sc_law.nd rfl (by first | exact Or.inl rfl | exact Or.inr rfl) (pe_op op_cat (pv 9) (pe_lst (pa_cons (pe_tup (pa_cons pe_int (pa_cons (pv 3) (pa_cons (pv 6) (pa_cons pe_str pa_nil))))) (pa_cons (pe_tup (pa_cons pe_int (pa_cons (pv 3) (pa_cons pe_non (pa_cons pe_str pa_nil))))) pa_nil)))))
    (pss_cons (ps_set (i := 9) sc_law.nd rfl (by first | exact Or.inl rfl | exact Or.inr rfl) (pe_op op_cat (pv 9) (pe_lst (pa_cons (pe_tup (pa_cons pe_int (pa_cons (pv 3) (pa_cons pe_int (pa_cons pe_str pa_nil))))) (pa_cons (pe_tup (pa_cons pe_int (pa_cons (pv 3) (pa_cons (pv 5) (pa_cons pe_str pa_nil))))) (pa_cons (pe_tup (pa_cons pe_int (pa_cons (pv 3) (pa_cons pe_non (pa_cons pe_str pa_nil))))) pa_nil))))))
    (pss_cons (ps_set (i := 9) sc_law.nd rfl (by first | exact Or.inl rfl | exact Or.inr rfl) (pe_op op_cat (pv 9) (pe_lst (pa_cons (pe_tup (pa_cons pe_int (pa_cons (pv 3) (pa_cons pe_int (pa_cons pe_str pa_nil))))) (pa_cons (pe_tup (pa_cons pe_int (pa_cons (pv 3) (pa_cons pe_int (pa_cons pe_str pa_nil))))) (pa_cons (pe_tup (pa_cons pe_int (pa_cons (pv 3) (pa_cons (pv 7) (pa_cons pe_str pa_nil))))) pa_nil))))))
    (pss_cons (ps_set (i := 9) sc_law.nd rfl (by first | exact Or.inl rfl | exact Or.inr rfl) (pe_op op_cat (pv 9) (pe_op op_rep (pe_lst (pa_cons (pe_tup (pa_cons pe_int (pa_cons (pv 3) (pa_cons (pe_op op_sub (pv 5) pe_int) (pa_cons pe_str pa_nil))))) pa_nil)) (pe_callTy call_int1 (by rfl) T.n_int (by decide +kernel) (pa_cons (pe_cmpR op_gt (pv 5) pe_int (nomark _)) pa_nil)))))
    (pss_cons (ps_set (i := 9) sc_law.nd rfl (by first | exact Or.inl rfl | exact Or.inr rfl) (pe_op op_cat (pv 9) (pe_op op_rep (pe_lst (pa_cons (pe_tup (pa_cons pe_int (pa_cons (pv 3) (pa_cons (pe_op op_sub (pv 6) pe_int) (pa_cons pe_str pa_nil))))) pa_nil)) (pe_callTy call_int1 (by rfl) T.n_int (by decide +kernel) (pa_cons (pe_cmpR op_gt (pv 6) pe_int (nomark _)) pa_nil)))))
    (pss_cons (ps_for PassesOwn.never rfl (pi_list (pv 9)) (pg_tup rfl (pgs_cons (pg_name (i := 10) sc_law.nd rfl (by first | exact Or.inl rfl | exact Or.inr rfl)) (pgs_cons (pg_name (i := 11) sc_law.nd rfl (by first | exact Or.inl rfl | exact Or.inr rfl)) (pgs_cons (pg_name (i := 12) sc_law.nd rfl (by first | exact Or.inl rfl | exact Or.inr rfl)) (pgs_cons (pg_name (i := 13) sc_law.nd rfl (by first | exact Or.inl rfl | exact Or.inr rfl)) pgs_nil)))))
      (pss_one (ps_if (pt_cmpR op_ne (pe_callH G_law_asked (hr.mono (by omega)) (by rfl) (pa_cons (pv 10) (pa_cons (pv 11) (pa_cons (pv 12) pa_nil)))) (pv 13) (nomark _)) (pss_one (ps_ret pe_bl)) pss_nil)))
    (pss_one (ps_if (pt_cmpR op_ne (pe_callB (call_reprR (by rfl) (room70 hr)) (by rfl) T.n_repr (by decide +kernel) (pa_cons (pe_lst (pa_cons (pv 3) (pa_cons (pv 4) pa_nil))) pa_nil)) (pv 8) (nomark _)) (pss_one (ps_ret pe_bl)) pss_nil))))))))))))))))))
    (pss_one (ps_ret pe_bl)))), ?_⟩
    refine ⟨_, rfl, a, ns, rfl, hS, l63, fun H1 sp s1 nsp z1 => ?_⟩
    refine ⟨_, rfl, a, _, rfl, .inl (s1.seq hS), _, _, rfl, _, _, rfl, rfl, _, rfl, ?_, ?_, for_range (lo := 0) (n := _) (fun i σ H' => ∃ y2 y3 y4 y5 y6 y7 y8 y9 y10 y11 y12 y13 y14 y15, σ = [some (.ref a), some (.ref sp), y2, y3, y4, y5, y6, y7, y8, y9, y10, y11, y12, y13, y14, y15] ∧ Spr H' sp)
      ⟨none, none, none, none, none, none, none, none, none, none, none, none, none, none, rfl, z1⟩ (fun i σ H2 hi hP => ?_) (fun σ H2 hP => ?_)⟩
    · rw [List.length_map]
      split <;> omega
    · rw [List.length_map]
      split <;> omega
    · obtain ⟨y2, y3, y4, y5, y6, y7, y8, y9, y10, y11, y12, y13, y14, y15, rfl, z2⟩ := hP
      clear z1
      refine ⟨_, rfl, _, _, rfl, rfl, ⟨by decide, by decide, by decide⟩, (by show 2 ≤ sizeLine; decide), fun l nl => ⟨_, rfl, sp, 2, rfl, z2.same (same_upd nl), by decide, by decide, fun H3 r3 b3 z3 r30 r31 => ?_⟩⟩
      obtain ⟨g, eg, g1, g2⟩ : ∃ g, atI [V.int 9, .int ((10 : Int) ^ ((30 : Int).toNat))] r3 = some (.int g) ∧ 1 ≤ g ∧ g ≤ 1000000000000000000000000000000 := by
        rw [q30]
        rcases (show r3 = 0 ∨ r3 = 1 by omega) with e | e
        · rw [e]; exact ⟨9, rfl, by decide, by decide⟩
        · rw [e]; exact ⟨_, rfl, by decide, by decide⟩
      refine ⟨l, _, r3, _, rfl, rfl, .of (b3 _ _ (Spr.ne z2 nl) upd_same), eg, ?_⟩
      refine ⟨sp, 8, g, rfl, z3, by decide, by decide, g1, g2, fun H4 p rs b4 z4 np hR ok lm lg => ?_⟩
      have lr : rs.length ≤ 8 := by omega
      clear b3 z3 b4 np lm lg eg g1 g2 z2 nl
      have kk : ∀ r ∈ rs, KindOk r.1 ∧ r.2.natAbs < 10 ^ 60 := fun r hr => ⟨(ok.2.1 r hr).1, by have := (ok.2.1 r hr).2; omega⟩
      have pos : ∀ r ∈ rs, 1 ≤ r.2 := fun r hr => (ok.2.1 r hr).2.1
      have ln : 0 ≤ lenR rs ∧ lenR rs ≤ 1000000000000000000000000000000 * 8 := by
        have gen : ∀ l : List Run, (∀ r ∈ l, 1 ≤ r.2 ∧ r.2 ≤ 1000000000000000000000000000000) → 0 ≤ lenR l ∧ lenR l ≤ 1000000000000000000000000000000 * (l.length : Int) := by
          intro l
          induction l with
          | nil => intro _; exact ⟨Int.le_refl _, Int.le_refl _⟩
          | cons r t ih =>
            intro k
            have h1 := k r (List.mem_cons_self ..)
            have h2 := ih fun x hx => k x (List.mem_cons_of_mem _ hx)
            rw [lenR_cons, List.length_cons, Int.natCast_add, Int.mul_add]
            have e : (1000000000000000000000000000000 : Int) * ((1 : Nat) : Int) = 1000000000000000000000000000000 := Int.mul_one _
            omega
        have := gen rs fun r hr => (ok.2.1 r hr).2
        omega
      -- bad
      refine ⟨_, rfl, _, rfl, sp, p, rs, rfl, z4, hR, by omega, fun H5 bv d b5 z5 hd hv => ?_⟩
      obtain ⟨bs, bf⟩ := noSeq_bad (fun r hr => (kk r hr).1) (by omega) hd
      have bc := calm_no hd
      have bn := nis_no kk (by omega) hd
      have hR0 : Runs H5 p rs := hR.but z4 b5
      clear hR z4 b5 hd
      -- length
      have hR1 := hR0
      obtain ⟨xs, hx, hp⟩ := hR1
      have lx : xs.length = rs.length := Paired.len hp
      refine ⟨_, rfl, p, rfl, ⟨xs, .of hx⟩, fun L nL => lc_list (K := K) (a := p) (xs := xs) (fun i H' => Same H5 H' ∧ H' L = some (.lst (((rs.map (·.2)).take i).map V.int))) ⟨same_upd nL, upd_same⟩ (fun i H' _ p => .of (p.1 _ _ hx)) (fun i x H6 ex hP => ?_) (fun H6 hP => ?_)⟩
      · obtain ⟨sm, hL⟩ := hP
        obtain ⟨r, er, hr1⟩ := Paired.at hp ex
        obtain ⟨t, rfl, ht⟩ := RunV.same sm hr1
        refine ⟨t, _, rfl, .of ht, rfl, _, _, rfl, _, _, rfl, rfl, rfl, yesT ⟨_, rfl, _, hL, ?_, same_grow nL sm, ?_⟩⟩
        · simp only [List.length_map, List.length_take]
          exact small (by omega)
        · rw [upd_same, take_snoc (x := r.2) (by rw [List.getElem?_map, er]; rfl), List.map_append]
          rfl
      obtain ⟨s6, hL⟩ := hP
      rw [List.take_of_length_le (by rw [List.length_map]; omega)] at hL
      refine ⟨L, (rs.map (fun r : Run => r.2)), rfl, .of hL, ?_⟩
      have hR6 := hR0.same s6
      have z6 := z5.same s6
      have hv6 := hv.same s6
      clear hR0 hx hp hL nL s6 z5 lx hv
      -- number
      refine ⟨_, rfl, .ref p, .lst (rs.map dR), .non, .non, rfl, rp_runs hR6, (seq_good ok).2, .non, fun c1 n en n0 n1 H7 s7 => ?_, fun c H' s' => ?_, fun c1 c2 H' s' => ?_⟩
      rotate_left
      · rw [(seq_good ok).1] at c
        cases c
      · exfalso
        rw [runs_dR] at c2
        have c2 : decide (0 ≤ lenR rs ∧ lenR rs ≤ lenR rs) = false := c2
        rw [decide_eq_true ⟨ln.1, Int.le_refl _⟩] at c2
        cases c2
      rw [runs_dR] at en
      have en : lenR rs = n := Dat.int.inj en
      rw [runs_dR, ← en, pc_all pos]
      have pn := pn_le pos ln.1
      have pn0 : pnR rs ≤ lenR rs := pn
      clear n0 n1 en c1
      have hR7 := hR6.same s7
      have z7 := z6.same s7
      have hv7 := hv6.same s7
      clear hR6 z6 hv6 s7
      -- odd
      refine g_step ?_
      refine litF_setIx (H0 := H7) (Same.refl _) (ds := oddP (lenR rs)) (litF_lst (litsF_cons (litF_val (v := .int (-1)) (fun H Q q => ⟨1, rfl, q⟩) (fun H => .int _)) (litsF_cons (litF_val (v := .int (lenR rs + 1)) (fun H Q q => ⟨_, rfl, _, _, rfl, rfl, q⟩) (fun H => .int _)) (litsF_cons (litF_val (v := .int ((10 : Int) ^ ((39 : Int).toNat))) (fun H Q q => ⟨_, _, rfl, rfl, ⟨by decide, by decide, by decide⟩, q⟩) (fun H => .int _)) (litsF_cons litF_bl (litsF_cons litF_str (litsF_cons (litF_lst (litsF_cons litF_int litsF_nil) (Nat.le_of_ble_eq_true rfl)) (litsF_cons litF_bl (litsF_cons (litF_val (v := .int (-((10 : Int) ^ ((30 : Int).toNat)))) (fun H Q q => ⟨_, _, rfl, rfl, ⟨by decide, by decide, by decide⟩, _, rfl, q⟩) (fun H => .int _)) litsF_nil)))))))) (Nat.le_of_ble_eq_true rfl)) (fun H9 v9 s9 r9 => ?_)
      refine ⟨_, rfl, sp, 8, rfl, z7.same s9, by decide, by decide, fun H10 r10 b10 z10 r100 r101 => ?_⟩
      have i8 : r10.toNat < (oddP (lenR rs)).length := by
        show r10.toNat < 8
        omega
      obtain ⟨pa, xs9, o, rfl, hxs, ex, ho⟩ := rp_at (r9.same (newH_but z7 b10)) r100 i8
      have ho := ho.same newH_sub
      obtain ⟨o1, o2, o3, o4⟩ := odd_bad rs ln.1 (by omega) pn _ (List.getElem_mem i8)
      generalize (oddP (lenR rs))[r10.toNat] = dO at *
      refine ⟨pa, xs9, r10, o, rfl, rfl, .of (newH_sub _ _ hxs), ex, ?_⟩
      have hR10 := (hR7.same s9).but (z7.same s9) b10
      have hv10 := Rp.butS (z7.same s9) b10 (hv7.same s9) bc
      clear hR7 z7 hv7 s9 b10 r9 hxs ex
      -- before
      have rs10 := rp_runs hR10
      have nG := nis_lst (w := 20000) (n := 5) (l := [.lst (rs.map dR), d]) fun x hx => by
        rcases List.mem_cons.mp hx with e | hx
        · rw [e]; exact nis_runs kk (by omega)
        · rw [List.mem_singleton.mp hx]; exact bn
      obtain ⟨k1, k2, k3⟩ := nG.fits (by show 20001 * 2 ≤ 150000; decide) (by decide)
      refine ⟨_, rfl, _, rfl, (by show 2 ≤ sizeLine; decide), fun G nG => ⟨G, .lst [.lst (rs.map dR), d], rfl, .lst upd_same (.cons (rs10.same (same_upd nG)) (.cons (hv10.same (same_upd nG)) .nil)), k1, k2, k3, ?_⟩⟩
      have sG := same_upd (o := .lst [.ref p, bv]) nG
      generalize upd H10 G (.lst [.ref p, bv]) = H11 at *
      clear nG
      have fs := (seq_good ok).2
      have gs := (seq_good ok).1
      have er := runs_dR rs
      generalize Dat.lst (rs.map dR) = dS at *
      -- what is due
      have u1 : ∀ k m, dueP k d m = "InvalidSequence" := fun k m => by unfold dueP; rw [if_pos bs]
      have ns : ¬ dS.seq = false := by rw [gs]; decide
      have u2 : ∀ m : Dat, m.inI 0 (lenR rs - 1) = false → dueP 0 dS m = "InvalidPosition" := fun m h => by unfold dueP; rw [er, if_neg ns, if_pos ⟨rfl, h⟩]
      have u3 : ∀ m : Dat, (m.mom rs).inI 0 (lenR rs) = false → dueP 1 dS m = "InvalidPosition" := fun m h => by unfold dueP; rw [er, if_neg ns, if_neg (by intro z; omega), if_pos ⟨rfl, h⟩]
      have u4 : ∀ m : Dat, m.inI 0 (pnR rs - 1) = false → dueP 2 dS m = "InvalidNumber" := fun m h => by unfold dueP; rw [er, if_neg ns, if_neg (by intro z; omega), if_neg (by intro z; omega), if_pos ⟨rfl, h⟩]
      have u5 : ∀ m : Dat, m.inI 0 (lenR rs - 1) = true → dueP 0 dS m = "none" := fun m h => by unfold dueP; rw [er, if_neg ns, if_neg (by rw [h]; intro z; cases z.2), if_neg (by intro z; omega), if_neg (by intro z; omega)]
      have u6 : ∀ m : Dat, (m.mom rs).inI 0 (lenR rs) = true → dueP 1 dS m = "none" := fun m h => by unfold dueP; rw [er, if_neg ns, if_neg (by intro z; omega), if_neg (by rw [h]; intro z; cases z.2), if_neg (by intro z; omega)]
      have u7 : ∀ m : Dat, m.inI 0 (pnR rs - 1) = true → dueP 2 dS m = "none" := fun m h => by unfold dueP; rw [er, if_neg ns, if_neg (by intro z; omega), if_neg (by intro z; omega), if_neg (by rw [h]; intro z; cases z.2)]
      have u8 : ∀ (k : Int) (m : Dat), 3 ≤ k → dueP k dS m = "none" := fun k m h => by unfold dueP; rw [er, if_neg ns, if_neg (by intro z; omega), if_neg (by intro z; omega), if_neg (by intro z; omega)]
      have no5 : ∀ {k : Int} {m : Dat}, k ≠ 5 → k = 5 → m.noPr := fun h z => absurd z h
      -- rows: the first
      refine ⟨6, rfl, by decide, by decide, fun L nL => lc_range (lo := 0) (n := 6) (fun i H' => Same H11 H' ∧ ∃ xs, H' L = some (.lst xs) ∧ xs.length = i ∧ ∀ x ∈ xs, RwV H10 H' x) ⟨same_upd nL, [], upd_same, rfl, fun x hx => by cases hx⟩ (fun i H' hi hP => ?_) (fun H' hP => ?_)⟩
      · obtain ⟨sm, xs, hL, lx, hx⟩ := hP
        refine ⟨rfl, yesT ⟨_, rfl, _, rfl, _, rfl, (by show 4 ≤ sizeLine; decide), fun u nu => ⟨_, same_upd nu _ _ hL, small (by omega), same_grow nL (sm.trans (same_upd nu)), _, upd_same, by rw [List.length_append, lx]; rfl, fun x h => ?_⟩⟩⟩
        refine RwV.grow (same_upd nu _ _ hL) ?_
        rcases List.mem_append.mp h with z | z
        · exact (hx x z).same (same_upd nu)
        · rw [List.mem_singleton.mp z]
          exact rw_mk (u1 _ dO) (by omega) (by omega) hv10 bf ho (fun _ => o4)
      obtain ⟨s12, xs, hL, lx, hx⟩ := hP
      have lx : xs.length ≤ 6 := Nat.le_of_eq lx
      refine ⟨_, rfl, _, rfl, (by show 4 ≤ sizeLine; decide), fun w1 n1 => ⟨(by show 1 ≤ sizeLine; decide), fun N nN => ⟨L, N, _, _, rfl, rfl, same_upd nN _ _ (same_upd n1 _ _ hL), upd_same, smallE (by show xs.length + 1 ≤ _; omega), fun R nR => ?_⟩⟩⟩
      refine g_step ?_
      refine gen_heap (A := fun Hn => Same H' Hn ∧ Rows H10 Hn R (6 + 1)) (fun H20 z => ?_) (rows_add hx lx (same_upd n1) (ys := [.ref w1]) (m := 1) (fun y hy => by
        rw [List.mem_singleton.mp hy]
        exact rw_mk (u2 dO o1) (by decide) (by decide) rs10 fs ho (no5 (by decide))) (Nat.le_refl _) nN nR)
      obtain ⟨sB, hB⟩ := z
      have sC := (sG.trans s12).trans sB
      clear nR nN n1 hL hx lx sB s12 sG
      -- rows
      obtain ⟨xs, hx0, lx, hx⟩ := hB
      refine ⟨_, rfl, _, rfl, _, rfl, (by show 4 ≤ sizeLine; decide), fun w1 n1 => ⟨_, rfl, (by show 4 ≤ sizeLine; decide), fun w2 n2 => ⟨(by show 2 ≤ sizeLine; decide), fun N nN => ⟨R, N, _, _, rfl, rfl, same_upd nN _ _ (same_upd n2 _ _ (same_upd n1 _ _ (hx0))), upd_same, smallE (by show xs.length + 2 ≤ _; omega), fun R1 nR => ?_⟩⟩⟩⟩
      refine g_step ?_
      refine gen_heap (A := fun Hn => Same H20 Hn ∧ Rows H10 Hn R1 (6 + 1 + 2)) (fun H21 z => ?_) (rows_add hx lx ((same_upd n1).trans (same_upd n2)) (ys := [.ref w1, .ref w2]) (m := 2) (fun y hy => by
        simp only [List.mem_cons, List.not_mem_nil, or_false] at hy
        rcases hy with e | e
        · rw [e]
          exact (rw_mk (u2 (.int (lenR rs)) (inI_no (by omega))) (by decide) (by decide) rs10 fs (.int _) (no5 (by decide))).same (same_upd n2)
        · rw [e]
          exact rw_mk (u2 .non rfl) (by decide) (by decide) rs10 fs (.non) (no5 (by decide))) (Nat.le_refl _) nN nR)
      obtain ⟨sB, hB⟩ := z
      have sC := sC.trans sB
      clear nR nN n1 n2 hx0 hx lx sB
      -- rows
      obtain ⟨xs, hx0, lx, hx⟩ := hB
      refine ⟨_, rfl, _, rfl, _, rfl, (by show 4 ≤ sizeLine; decide), fun w1 n1 => ⟨_, rfl, _, rfl, (by show 4 ≤ sizeLine; decide), fun w2 n2 => ⟨(by show 2 ≤ sizeLine; decide), fun N nN => ⟨R1, N, _, _, rfl, rfl, same_upd nN _ _ (same_upd n2 _ _ (same_upd n1 _ _ (hx0))), upd_same, smallE (by show xs.length + 2 ≤ _; omega), fun R2 nR => ?_⟩⟩⟩⟩
      refine g_step ?_
      refine gen_heap (A := fun Hn => Same H21 Hn ∧ Rows H10 Hn R2 (6 + 1 + 2 + 2)) (fun H22 z => ?_) (rows_add hx lx ((same_upd n1).trans (same_upd n2)) (ys := [.ref w1, .ref w2]) (m := 2) (fun y hy => by
        simp only [List.mem_cons, List.not_mem_nil, or_false] at hy
        rcases hy with e | e
        · rw [e]
          exact (rw_mk (u3 dO o2) (by decide) (by decide) rs10 fs (ho) (no5 (by decide))).same (same_upd n2)
        · rw [e]
          exact rw_mk (u4 dO o3) (by decide) (by decide) rs10 fs (ho) (no5 (by decide))) (Nat.le_refl _) nN nR)
      obtain ⟨sB, hB⟩ := z
      have sC := sC.trans sB
      clear nR nN n1 n2 hx0 hx lx sB
      -- rows
      obtain ⟨xs, hx0, lx, hx⟩ := hB
      refine ⟨_, rfl, _, rfl, _, rfl, (by show 4 ≤ sizeLine; decide), fun w1 n1 => ⟨_, rfl, (by show 4 ≤ sizeLine; decide), fun w2 n2 => ⟨(by show 2 ≤ sizeLine; decide), fun N nN => ⟨R2, N, _, _, rfl, rfl, same_upd nN _ _ (same_upd n2 _ _ (same_upd n1 _ _ (hx0))), upd_same, smallE (by show xs.length + 2 ≤ _; omega), fun R3 nR => ?_⟩⟩⟩⟩
      refine g_step ?_
      refine gen_heap (A := fun Hn => Same H22 Hn ∧ Rows H10 Hn R3 (6 + 1 + 2 + 2 + 2)) (fun H23 z => ?_) (rows_add hx lx ((same_upd n1).trans (same_upd n2)) (ys := [.ref w1, .ref w2]) (m := 2) (fun y hy => by
        simp only [List.mem_cons, List.not_mem_nil, or_false] at hy
        rcases hy with e | e
        · rw [e]
          exact (rw_mk (u4 (.int (pnR rs)) (inI_no (by omega))) (by decide) (by decide) rs10 fs (.int _) (no5 (by decide))).same (same_upd n2)
        · rw [e]
          exact rw_mk (u4 .non rfl) (by decide) (by decide) rs10 fs (.non) (no5 (by decide))) (Nat.le_refl _) nN nR)
      obtain ⟨sB, hB⟩ := z
      have sC := sC.trans sB
      clear nR nN n1 n2 hx0 hx lx sB
      -- rows
      obtain ⟨xs, hx0, lx, hx⟩ := hB
      refine ⟨_, rfl, _, rfl, (by show 4 ≤ sizeLine; decide), fun w1 n1 => ⟨_, rfl, _, rfl, (by show 4 ≤ sizeLine; decide), fun w2 n2 => ⟨_, rfl, (by show 4 ≤ sizeLine; decide), fun w3 n3 => ⟨(by show 3 ≤ sizeLine; decide), fun N nN => ⟨R3, N, _, _, rfl, rfl, same_upd nN _ _ (same_upd n3 _ _ (same_upd n2 _ _ (same_upd n1 _ _ (hx0)))), upd_same, smallE (by show xs.length + 3 ≤ _; omega), fun R4 nR => ?_⟩⟩⟩⟩⟩
      refine g_step ?_
      refine gen_heap (A := fun Hn => Same H23 Hn ∧ Rows H10 Hn R4 (6 + 1 + 2 + 2 + 2 + 3)) (fun H24 z => ?_) (rows_add hx lx ((same_upd n1).trans ((same_upd n2).trans (same_upd n3))) (ys := [.ref w1, .ref w2, .ref w3]) (m := 3) (fun y hy => by
        simp only [List.mem_cons, List.not_mem_nil, or_false] at hy
        rcases hy with e | e | e
        · rw [e]
          exact (rw_mk (u6 (.int 0) (decide_eq_true ⟨Int.le_refl _, ln.1⟩)) (by decide) (by decide) rs10 fs (.int _) (no5 (by decide))).same ((same_upd n2).trans (same_upd n3))
        · rw [e]
          exact (rw_mk (u6 (.int (lenR rs)) (decide_eq_true ⟨ln.1, Int.le_refl _⟩)) (by decide) (by decide) rs10 fs (.int _) (no5 (by decide))).same (same_upd n3)
        · rw [e]
          exact rw_mk (u6 .non (decide_eq_true ⟨ln.1, Int.le_refl _⟩)) (by decide) (by decide) rs10 fs (.non) (no5 (by decide))) (Nat.le_refl _) nN nR)
      obtain ⟨sB, hB⟩ := z
      have sC := sC.trans sB
      clear nR nN n1 n2 n3 hx0 hx lx sB
      -- rows
      obtain ⟨xs, hx0, lx, hx⟩ := hB
      refine ⟨_, rfl, _, rfl, (by show 4 ≤ sizeLine; decide), fun w1 n1 => ⟨_, rfl, (by show 4 ≤ sizeLine; decide), fun w2 n2 => ⟨_, rfl, _, rfl, (by show 4 ≤ sizeLine; decide), fun w3 n3 => ⟨(by show 3 ≤ sizeLine; decide), fun N nN => ⟨R4, N, _, _, rfl, rfl, same_upd nN _ _ (same_upd n3 _ _ (same_upd n2 _ _ (same_upd n1 _ _ (hx0)))), upd_same, smallE (by show xs.length + 3 ≤ _; omega), fun R5 nR => ?_⟩⟩⟩⟩⟩
      refine g_step ?_
      refine gen_heap (A := fun Hn => Same H24 Hn ∧ Rows H10 Hn R5 (6 + 1 + 2 + 2 + 2 + 3 + 3)) (fun H25 z => ?_) (rows_add hx lx ((same_upd n1).trans ((same_upd n2).trans (same_upd n3))) (ys := [.ref w1, .ref w2, .ref w3]) (m := 3) (fun y hy => by
        simp only [List.mem_cons, List.not_mem_nil, or_false] at hy
        rcases hy with e | e | e
        · rw [e]
          exact (rw_mk (u8 3 (.int 0) (by decide)) (by decide) (by decide) rs10 fs (.int _) (no5 (by decide))).same ((same_upd n2).trans (same_upd n3))
        · rw [e]
          exact (rw_mk (u8 4 (.int 0) (by decide)) (by decide) (by decide) rs10 fs (.int _) (no5 (by decide))).same (same_upd n3)
        · rw [e]
          exact rw_mk (u8 5 dO (by decide)) (by decide) (by decide) rs10 fs (ho) (fun _ => o4)) (Nat.le_refl _) nN nR)
      obtain ⟨sB, hB⟩ := z
      have sC := sC.trans sB
      clear nR nN n1 n2 n3 hx0 hx lx sB
      -- rows, if there is one
      obtain ⟨xs, hx0, lx, hx⟩ := hB
      refine ⟨_, rfl, _, rfl, _, rfl, _, _, rfl, rfl, (by show 4 ≤ sizeLine; decide), fun w1 n1 => ⟨(by show 1 ≤ sizeLine; decide), fun N nN => ⟨_, rfl, _, _, rfl, rfl, .inr ⟨_, rfl, N, _, _, rfl, rfl, upd_same, ?_, ?_, ?_, fun M nM => ⟨R5, M, _, _, rfl, rfl, same_upd nM _ _ (same_upd nN _ _ (same_upd n1 _ _ hx0)), upd_same, ?_, fun R6 nR => ?_⟩⟩⟩⟩⟩
      · split <;> decide
      · split <;> decide
      · split
        · show 1 * 1 ≤ sizeLine
          decide
        · show 1 * 0 ≤ sizeLine
          decide
      · refine smallE ?_
        split
        · show xs.length + 1 ≤ _
          omega
        · show xs.length + 0 ≤ _
          omega
      have m1 := same_upd (o := .lst [.ref w1]) nN
      refine g_step ?_
      refine gen_heap (A := fun Hn => Same H25 Hn ∧ Rows H10 Hn R6 (6 + 1 + 2 + 2 + 2 + 3 + 3 + 1)) (fun H26 z => ?_) (rows_add hx lx ((same_upd n1).trans m1) (ys := (List.replicate (if decide (lenR rs > 0) = true then (1 : Int) else 0).toNat [V.ref w1]).flatten) (m := 1) (fun y hy => by
        obtain ⟨hy, c⟩ := mem_rep hy
        have c : 0 < lenR rs := by
          by_cases z : decide (lenR rs > 0) = true
          · exact of_decide_eq_true z
          · rw [if_neg z] at c
            exact absurd c (by decide)
        rw [List.mem_singleton.mp hy]
        exact (rw_mk (u5 (.int (lenR rs - 1)) (decide_eq_true ⟨by omega, by omega⟩)) (by decide) (by decide) rs10 fs (.int _) (no5 (by decide))).same m1) (by split <;> exact Nat.le_of_ble_eq_true rfl) nM nR)
      obtain ⟨sB, hB⟩ := z
      have sC := sC.trans sB
      clear nR nM nN n1 hx0 hx lx sB
      -- rows, if there is one
      obtain ⟨xs, hx0, lx, hx⟩ := hB
      refine ⟨_, rfl, _, rfl, _, rfl, _, _, rfl, rfl, (by show 4 ≤ sizeLine; decide), fun w1 n1 => ⟨(by show 1 ≤ sizeLine; decide), fun N nN => ⟨_, rfl, _, _, rfl, rfl, .inr ⟨_, rfl, N, _, _, rfl, rfl, upd_same, ?_, ?_, ?_, fun M nM => ⟨R6, M, _, _, rfl, rfl, same_upd nM _ _ (same_upd nN _ _ (same_upd n1 _ _ hx0)), upd_same, ?_, fun R7 nR => ?_⟩⟩⟩⟩⟩
      · split <;> decide
      · split <;> decide
      · split
        · show 1 * 1 ≤ sizeLine
          decide
        · show 1 * 0 ≤ sizeLine
          decide
      · refine smallE ?_
        split
        · show xs.length + 1 ≤ _
          omega
        · show xs.length + 0 ≤ _
          omega
      have m1 := same_upd (o := .lst [.ref w1]) nN
      refine g_step ?_
      refine gen_heap (A := fun Hn => Same H26 Hn ∧ Rows H10 Hn R7 (6 + 1 + 2 + 2 + 2 + 3 + 3 + 1 + 1)) (fun H27 z => ?_) (rows_add hx lx ((same_upd n1).trans m1) (ys := (List.replicate (if decide (pnR rs > 0) = true then (1 : Int) else 0).toNat [V.ref w1]).flatten) (m := 1) (fun y hy => by
        obtain ⟨hy, c⟩ := mem_rep hy
        have c : 0 < pnR rs := by
          by_cases z : decide (pnR rs > 0) = true
          · exact of_decide_eq_true z
          · rw [if_neg z] at c
            exact absurd c (by decide)
        rw [List.mem_singleton.mp hy]
        exact (rw_mk (u7 (.int (pnR rs - 1)) (decide_eq_true ⟨by omega, by omega⟩)) (by decide) (by decide) rs10 fs (.int _) (no5 (by decide))).same m1) (by split <;> exact Nat.le_of_ble_eq_true rfl) nM nR)
      obtain ⟨sB, hB⟩ := z
      have sC := sC.trans sB
      clear nR nM nN n1 hx0 hx lx sB
      -- all rows
      obtain ⟨xs, hx0, lx, hx⟩ := hB
      refine ⟨_, rfl, R7, rfl, ⟨xs, .of hx0⟩, for_list (K := K) (a := R7) (xs := xs) (fun j σ H' => ∃ y10 y11 y12 y13, σ = [some (.ref a), some (.ref sp), some (.int (0 + i)), some (.ref p), some bv, some (.int (lenR rs)), some (.int (pnR rs)), some o, some (.str (Dat.lst [dS, d]).py.shown), some (.ref R7), y10, y11, y12, y13, y14, y15] ∧ Same H27 H') ⟨_, _, _, _, rfl, Same.refl _⟩ (fun j σ H' _ hP => ?_) (fun j x σ H28 ex hP => ?_) (fun σ H28 hP => ?_)⟩
      · obtain ⟨_, _, _, _, _, sm⟩ := hP
        exact .of (sm _ _ hx0)
      · obtain ⟨y10, y11, y12, y13, rfl, sm⟩ := hP
        obtain ⟨t, k, one, two, d1, m, rfl, ht, k0, k6, h1, f1, h2, np⟩ := hx x (List.mem_of_getElem? ex)
        refine ⟨t, _, rfl, .of (sm _ _ ht), rfl, _, _, rfl, _, _, rfl, _, _, rfl, _, _, rfl, rfl, ?_⟩
        refine ⟨_, rfl, _, rfl, _, rfl, k, one, two, d1, m, rfl, k0, k6, h1.same (sC.trans sm), f1, h2.same (sC.trans sm), np, fun H29 s29 => ?_⟩
        exact ⟨_, rfl, rfl, _, rfl, iteN (by rw [decide_eq_true rfl]; rfl) ⟨_, _, _, _, rfl, sm.trans s29⟩⟩
      obtain ⟨y10, y11, y12, y13, rfl, sm⟩ := hP
      have s28 := sC.trans sm
      refine ⟨_, rfl, _, rfl, (by show 2 ≤ sizeLine; decide), fun G2 nG2 => ⟨G2, .lst [dS, d], rfl, .lst upd_same (.cons (rs10.same (s28.trans (same_upd nG2))) (.cons (hv10.same (s28.trans (same_upd nG2))) .nil)), k1, k2, k3, _, rfl, rfl, _, rfl, iteN (by rw [decide_eq_true rfl]; rfl) ?_⟩⟩
      exact ⟨_, _, _, _, _, _, _, _, _, _, _, _, _, _, rfl, z10.same (s28.trans (same_upd nG2))⟩
    · obtain ⟨y2, y3, y4, y5, y6, y7, y8, y9, y10, y11, y12, y13, y14, y15, rfl, z2⟩ := hP
      exact q _
end
end UP

set_option Elab.async false
set_option linter.all false
set_option maxRecDepth 100000
set_option maxHeartbeats 4000000
namespace UP
open PySem PySem.Spec PyProof.Rows L2
section
variable {K : PySem.W.Frag} {h : Heap} {mg : Str → Option Value}
theorem df_mk {x : Str} {st : Stmt} {f : Addr} {od an : Option Addr} {sl : Array (Option Value)} {oc kV dc pm cd ct : Value} (X : K.In h) (G : h.Ns mainGlobals mg) (a : PySem.W.nsIn K mainGlobals x = some (some (.ref f)))
    (l : K.lookup f = some ⟨oc, od, .func (PySem.W.fnOf x x (defArgs st) (defBody st) (defScope st) .none kV dc pm an cd ct), sl⟩) (c : PySem.W.codeIn K cd x = true) (k : PySem.W.keepIn K (.ref f) = true) : Df K mg x st :=
  ⟨f, _, PySem.W.mg_of X G a, fun_mk l c k⟩
theorem dfd_mk {x : Str} {st : Stmt} {f T : Addr} {od an od2 : Option Addr} {sl sl2 : Array (Option Value)} {n2 : Nat} {oc kV dc pm cd ct oc2 : Value} (X : K.In h) (G : h.Ns mainGlobals mg) (a : PySem.W.nsIn K mainGlobals x = some (some (.ref f)))
    (l : K.lookup f = some ⟨oc, od, .func (PySem.W.fnOf x x (defArgs st) (defBody st) (defScope st) (.ref T) kV dc pm an cd ct), sl⟩) (t : K.lookup T = some ⟨oc2, od2, .seq #[.none] n2, sl2⟩) (c : PySem.W.codeIn K cd x = true) (k : PySem.W.keepIn K (.ref f) = true) : DfD K mg x st [.non] :=
  ⟨f, _, PySem.W.mg_of X G a, ⟨⟨oc, od, _, kV, dc, pm, an, cd, ct, sl, rfl, l, c, .inr ⟨(by intro z; cases z), T, _, [.none], n2, rfl, t, rfl, .cons rfl .nil⟩, .inl rfl⟩, k⟩⟩
theorem cst_mk {x : Str} {i : Int} {t : Tok} (X : K.In h) (G : h.Ns mainGlobals mg) (a : PySem.W.nsIn K mainGlobals x = some (some (.int i t))) : ∃ t, mg x = some (.int i t) := ⟨t, PySem.W.mg_of X G a⟩
end
/-! ### the classes -/
def CA (mg : Str → Option Value) (n : Str) : Addr := match mg n with
  | some (.ref C) => C
  | _ => 0
theorem ca_of {mg : Str → Option Value} {n : Str} {C : Addr} (h : mg n = some (.ref C)) : CA mg n = C := by
  unfold CA
  rw [h]
def P2 (K : PySem.W.Frag) (mg : Str → Option Value) (nm n : Str) (r : Bool) : Prop := ∃ D C, mg nm = some (.ref D) ∧ mg n = some (.ref C) ∧ PySem.W.kitOne K (.ref D) (.ref C) = some r
def P1 (K : PySem.W.Frag) (mg : Str → Option Value) (nm : Str) : Prop := ∃ D B, mg nm = some (.ref D) ∧ mg "PairError" = some (.ref B) ∧ Ex K mg nm D ∧ ExcC K D ∧ PySem.W.exmOne K (.ref D) (.ref B) = some true ∧ PySem.W.kitOne K (.ref D) (.ref B) = some true ∧ PySem.W.kitOne K (.ref D) (.type "ValueError") = some true
section
variable {K : PySem.W.Frag} {h : Heap} {mg : Str → Option Value}
theorem p2_mk {nm n : Str} {r : Bool} {D C : Addr} (X : K.In h) (G : h.Ns mainGlobals mg) (a : PySem.W.nsIn K mainGlobals nm = some (some (.ref D))) (b : PySem.W.nsIn K mainGlobals n = some (some (.ref C))) (k : PySem.W.kitOne K (.ref D) (.ref C) = some r) : P2 K mg nm n r := ⟨D, C, PySem.W.mg_of X G a, PySem.W.mg_of X G b, k⟩
theorem p1_mk {nm : Str} {D B : Addr} (X : K.In h) (G : h.Ns mainGlobals mg) (a : PySem.W.nsIn K mainGlobals nm = some (some (.ref D))) (b : PySem.W.nsIn K mainGlobals "PairError" = some (some (.ref B)))
    (x : PySem.W.excIn K D [.type "ValueError", .type "Exception", .type "BaseException", .type "object"] "ValueError.__new__" = true) (k : PySem.W.keepIn K (.ref D) = true) (bs : PySem.W.subIn K (.ref D) (.type "BaseException") = some true) (t : PySem.W.typeIn K (.ref D) = some (.type "type"))
    (e1 : PySem.W.findIn K (.ref D) "__getattribute__" = some (some (.builtin "BaseException.__getattribute__"))) (e2 : PySem.W.findIn K (.ref D) "__getattr__" = some none) (e3 : PySem.W.hasDictIn K D = true) (e4 : PySem.W.findIn K (.ref D) "__class__" = some (some (.builtin "object.__class__")))
    (e5 : PySem.W.specialIn K (.builtin "object.__class__") "__get__" = some (some (.builtin "getset_descriptor.__get__"))) (e6 : PySem.W.takesIn K (.builtin "object.__class__") = some true) (e7 : PySem.W.mroIn K D (.type "object") = some true)
    (m : PySem.W.exmOne K (.ref D) (.ref B) = some true) (k1 : PySem.W.kitOne K (.ref D) (.ref B) = some true) (k2 : PySem.W.kitOne K (.ref D) (.type "ValueError") = some true) : P1 K mg nm :=
  ⟨D, B, PySem.W.mg_of X G a, PySem.W.mg_of X G b, ⟨PySem.W.mg_of X G a, x, k, bs, t⟩, ⟨e1, e2, bs, e3, e4, e5, e6, e7⟩, m, k1, k2⟩
theorem clsF_of {nm : Str} (h : P1 K mg nm) (k : ∀ n, n ∈ six ++ (oddA ++ oddB) → P2 K mg nm n (decide (n = nm))) : ClsF K (CA mg) nm ∧ Ex K mg nm (CA mg nm) := by
  obtain ⟨D, B, g, gb, ex, ec, m, k1, k2⟩ := h
  have eD := ca_of g
  have eB := ca_of gb
  refine ⟨⟨by rw [eD]; exact ec, by rw [eD, eB]; exact m, fun n hn => ?_, by rw [eD, eB]; exact k1, by rw [eD]; exact k2⟩, by rw [eD]; exact ex⟩
  obtain ⟨D', C, g', gc, kk⟩ := k n hn
  rw [g] at g'
  cases g'
  rw [eD, ca_of gc]
  exact kk
theorem cmg_of {nm : Str} (h : P1 K mg nm) (k : ∀ n, n ∈ six ++ (oddA ++ oddB) → P2 K mg nm n (decide (n = nm))) : Cmg mg (CA mg) := by
  refine ⟨fun n hn => ?_⟩
  have hn : n ∈ (six ++ (oddA ++ oddB)) ∨ n = "PairError" := by
    rcases List.mem_append.mp hn with z | z
    · exact .inl (List.mem_append.mpr (.inl z))
    · rcases List.mem_append.mp z with z | z
      · exact .inl (List.mem_append.mpr (.inr (List.mem_append.mpr (.inl z))))
      · rcases List.mem_append.mp z with z | z
        · exact .inl (List.mem_append.mpr (.inr (List.mem_append.mpr (.inr z))))
        · exact .inr (List.mem_singleton.mp z)
  rcases hn with z | z
  · obtain ⟨D, C, _, gc, _⟩ := k n z
    rw [ca_of gc]
    exact gc
  · obtain ⟨D, B, _, gb, _⟩ := h
    rw [z, ca_of gb]
    exact gb
end
/-- all that the top has written -/
structure Top (K : PySem.W.Frag) (mg : Str → Option Value) : Prop where
  T : Tx mg
  p_InvalidSequence : P1 K mg "InvalidSequence"
  k_InvalidSequence_InvalidSequence : P2 K mg "InvalidSequence" "InvalidSequence" true
  k_InvalidSequence_InvalidState : P2 K mg "InvalidSequence" "InvalidState" false
  k_InvalidSequence_InvalidPosition : P2 K mg "InvalidSequence" "InvalidPosition" false
  k_InvalidSequence_InvalidNumber : P2 K mg "InvalidSequence" "InvalidNumber" false
  k_InvalidSequence_InvalidItems : P2 K mg "InvalidSequence" "InvalidItems" false
  k_InvalidSequence_TooLong : P2 K mg "InvalidSequence" "TooLong" false
  k_InvalidSequence_Contradiction : P2 K mg "InvalidSequence" "Contradiction" false
  k_InvalidSequence_Impossible : P2 K mg "InvalidSequence" "Impossible" false
  k_InvalidSequence_InvalidCommand : P2 K mg "InvalidSequence" "InvalidCommand" false
  k_InvalidSequence_InvalidCounts : P2 K mg "InvalidSequence" "InvalidCounts" false
  k_InvalidSequence_InvalidEffects : P2 K mg "InvalidSequence" "InvalidEffects" false
  k_InvalidSequence_InvalidKind : P2 K mg "InvalidSequence" "InvalidKind" false
  k_InvalidSequence_InvalidKinds : P2 K mg "InvalidSequence" "InvalidKinds" false
  k_InvalidSequence_InvalidRecord : P2 K mg "InvalidSequence" "InvalidRecord" false
  k_InvalidSequence_InvalidText : P2 K mg "InvalidSequence" "InvalidText" false
  k_InvalidSequence_NothingToUndo : P2 K mg "InvalidSequence" "NothingToUndo" false
  k_InvalidSequence_SameEffect : P2 K mg "InvalidSequence" "SameEffect" false
  k_InvalidSequence_TooMany : P2 K mg "InvalidSequence" "TooMany" false
  p_InvalidPosition : P1 K mg "InvalidPosition"
  k_InvalidPosition_InvalidSequence : P2 K mg "InvalidPosition" "InvalidSequence" false
  k_InvalidPosition_InvalidState : P2 K mg "InvalidPosition" "InvalidState" false
  k_InvalidPosition_InvalidPosition : P2 K mg "InvalidPosition" "InvalidPosition" true
  k_InvalidPosition_InvalidNumber : P2 K mg "InvalidPosition" "InvalidNumber" false
  k_InvalidPosition_InvalidItems : P2 K mg "InvalidPosition" "InvalidItems" false
  k_InvalidPosition_TooLong : P2 K mg "InvalidPosition" "TooLong" false
  k_InvalidPosition_Contradiction : P2 K mg "InvalidPosition" "Contradiction" false
  k_InvalidPosition_Impossible : P2 K mg "InvalidPosition" "Impossible" false
  k_InvalidPosition_InvalidCommand : P2 K mg "InvalidPosition" "InvalidCommand" false
  k_InvalidPosition_InvalidCounts : P2 K mg "InvalidPosition" "InvalidCounts" false
  k_InvalidPosition_InvalidEffects : P2 K mg "InvalidPosition" "InvalidEffects" false
  k_InvalidPosition_InvalidKind : P2 K mg "InvalidPosition" "InvalidKind" false
  k_InvalidPosition_InvalidKinds : P2 K mg "InvalidPosition" "InvalidKinds" false
  k_InvalidPosition_InvalidRecord : P2 K mg "InvalidPosition" "InvalidRecord" false
  k_InvalidPosition_InvalidText : P2 K mg "InvalidPosition" "InvalidText" false
  k_InvalidPosition_NothingToUndo : P2 K mg "InvalidPosition" "NothingToUndo" false
  k_InvalidPosition_SameEffect : P2 K mg "InvalidPosition" "SameEffect" false
  k_InvalidPosition_TooMany : P2 K mg "InvalidPosition" "TooMany" false
  p_InvalidNumber : P1 K mg "InvalidNumber"
  k_InvalidNumber_InvalidSequence : P2 K mg "InvalidNumber" "InvalidSequence" false
  k_InvalidNumber_InvalidState : P2 K mg "InvalidNumber" "InvalidState" false
  k_InvalidNumber_InvalidPosition : P2 K mg "InvalidNumber" "InvalidPosition" false
  k_InvalidNumber_InvalidNumber : P2 K mg "InvalidNumber" "InvalidNumber" true
  k_InvalidNumber_InvalidItems : P2 K mg "InvalidNumber" "InvalidItems" false
  k_InvalidNumber_TooLong : P2 K mg "InvalidNumber" "TooLong" false
  k_InvalidNumber_Contradiction : P2 K mg "InvalidNumber" "Contradiction" false
  k_InvalidNumber_Impossible : P2 K mg "InvalidNumber" "Impossible" false
  k_InvalidNumber_InvalidCommand : P2 K mg "InvalidNumber" "InvalidCommand" false
  k_InvalidNumber_InvalidCounts : P2 K mg "InvalidNumber" "InvalidCounts" false
  k_InvalidNumber_InvalidEffects : P2 K mg "InvalidNumber" "InvalidEffects" false
  k_InvalidNumber_InvalidKind : P2 K mg "InvalidNumber" "InvalidKind" false
  k_InvalidNumber_InvalidKinds : P2 K mg "InvalidNumber" "InvalidKinds" false
  k_InvalidNumber_InvalidRecord : P2 K mg "InvalidNumber" "InvalidRecord" false
  k_InvalidNumber_InvalidText : P2 K mg "InvalidNumber" "InvalidText" false
  k_InvalidNumber_NothingToUndo : P2 K mg "InvalidNumber" "NothingToUndo" false
  k_InvalidNumber_SameEffect : P2 K mg "InvalidNumber" "SameEffect" false
  k_InvalidNumber_TooMany : P2 K mg "InvalidNumber" "TooMany" false
  d_is_whole : Df K mg "is_whole" s_is_whole
  d_is_within : Df K mg "is_within" s_is_within
  d_is_listed : Df K mg "is_listed" s_is_listed
  d_is_couple : Df K mg "is_couple" s_is_couple
  d_is_kind : Df K mg "is_kind" s_is_kind
  d_is_run : Df K mg "is_run" s_is_run
  d_is_sequence : Df K mg "is_sequence" s_is_sequence
  d_checked_runs : Df K mg "checked_runs" s_checked_runs
  d_check_position : Df K mg "check_position" s_check_position
  d_length_of : Df K mg "length_of" s_length_of
  d_cut : Df K mg "cut" s_cut
  d_waiting_number : Df K mg "waiting_number" s_waiting_number
  d_state_with : Df K mg "state_with" s_state_with
  d_leaving_number : Df K mg "leaving_number" s_leaving_number
  d_state_after_run : Df K mg "state_after_run" s_state_after_run
  d_state_after_runs : Df K mg "state_after_runs" s_state_after_runs
  d_check_moment : Df K mg "check_moment" s_check_moment
  d_add_range : Df K mg "add_range" s_add_range
  d_without_first : Df K mg "without_first" s_without_first
  d_ranges_after_run : Df K mg "ranges_after_run" s_ranges_after_run
  d_blocks_of_run : Df K mg "blocks_of_run" s_blocks_of_run
  d_add_block : Df K mg "add_block" s_add_block
  d_blocks_of : Df K mg "blocks_of" s_blocks_of
  d_pairs_in : Df K mg "pairs_in" s_pairs_in
  d_partner_in : Df K mg "partner_in" s_partner_in
  d_is_pair : Df K mg "is_pair" s_is_pair
  d_partner_of : Df K mg "partner_of" s_partner_of
  d_pair_count : DfD K mg "pair_count" s_pair_count [.non]
  d_pairs_of : Df K mg "pairs_of" s_pairs_of
  d_nth_pair : Df K mg "nth_pair" s_nth_pair
  d_longest_wait : Df K mg "longest_wait" s_longest_wait
  d_is_pairing : Df K mg "is_pairing" s_is_pairing
  d_law_spring : Df K mg "_law_spring" s_law_spring
  d_law_draw : Df K mg "_law_draw" s_law_draw
  d_law_sequence : Df K mg "_law_sequence" s_law_sequence
  d_law_no_sequence : Df K mg "_law_no_sequence" s_law_no_sequence
  d_law_class : Df K mg "_law_class" s_law_class
  d_law_asked : Df K mg "_law_asked" s_law_asked
theorem Top.law {P : Program} {w : World} {K : PySem.W.Frag} {mg : Str → Option Value} (Y : Top K mg) {f : Addr} {fd : FuncData} (F : Fun K "law" "law" s_law f fd) (base : Heap) : FnC P w K mg base f fd ["script"] (sp_law K) := by
  have T := Y.T
  have q_InvalidSequence : ∀ n, n ∈ six ++ (oddA ++ oddB) → P2 K mg "InvalidSequence" n (decide (n = "InvalidSequence")) := by
    intro n hn
    simp only [six, oddA, oddB, List.cons_append, List.nil_append, List.mem_cons, List.not_mem_nil, or_false] at hn
    rcases hn with rfl | rfl | rfl | rfl | rfl | rfl | rfl | rfl | rfl | rfl | rfl | rfl | rfl | rfl | rfl | rfl | rfl | rfl
    · exact Y.k_InvalidSequence_InvalidSequence
    · exact Y.k_InvalidSequence_InvalidState
    · exact Y.k_InvalidSequence_InvalidPosition
    · exact Y.k_InvalidSequence_InvalidNumber
    · exact Y.k_InvalidSequence_InvalidItems
    · exact Y.k_InvalidSequence_TooLong
    · exact Y.k_InvalidSequence_Contradiction
    · exact Y.k_InvalidSequence_Impossible
    · exact Y.k_InvalidSequence_InvalidCommand
    · exact Y.k_InvalidSequence_InvalidCounts
    · exact Y.k_InvalidSequence_InvalidEffects
    · exact Y.k_InvalidSequence_InvalidKind
    · exact Y.k_InvalidSequence_InvalidKinds
    · exact Y.k_InvalidSequence_InvalidRecord
    · exact Y.k_InvalidSequence_InvalidText
    · exact Y.k_InvalidSequence_NothingToUndo
    · exact Y.k_InvalidSequence_SameEffect
    · exact Y.k_InvalidSequence_TooMany
  obtain ⟨F_InvalidSequence, X_InvalidSequence⟩ := clsF_of Y.p_InvalidSequence q_InvalidSequence
  have q_InvalidPosition : ∀ n, n ∈ six ++ (oddA ++ oddB) → P2 K mg "InvalidPosition" n (decide (n = "InvalidPosition")) := by
    intro n hn
    simp only [six, oddA, oddB, List.cons_append, List.nil_append, List.mem_cons, List.not_mem_nil, or_false] at hn
    rcases hn with rfl | rfl | rfl | rfl | rfl | rfl | rfl | rfl | rfl | rfl | rfl | rfl | rfl | rfl | rfl | rfl | rfl | rfl
    · exact Y.k_InvalidPosition_InvalidSequence
    · exact Y.k_InvalidPosition_InvalidState
    · exact Y.k_InvalidPosition_InvalidPosition
    · exact Y.k_InvalidPosition_InvalidNumber
    · exact Y.k_InvalidPosition_InvalidItems
    · exact Y.k_InvalidPosition_TooLong
    · exact Y.k_InvalidPosition_Contradiction
    · exact Y.k_InvalidPosition_Impossible
    · exact Y.k_InvalidPosition_InvalidCommand
    · exact Y.k_InvalidPosition_InvalidCounts
    · exact Y.k_InvalidPosition_InvalidEffects
    · exact Y.k_InvalidPosition_InvalidKind
    · exact Y.k_InvalidPosition_InvalidKinds
    · exact Y.k_InvalidPosition_InvalidRecord
    · exact Y.k_InvalidPosition_InvalidText
    · exact Y.k_InvalidPosition_NothingToUndo
    · exact Y.k_InvalidPosition_SameEffect
    · exact Y.k_InvalidPosition_TooMany
  obtain ⟨F_InvalidPosition, X_InvalidPosition⟩ := clsF_of Y.p_InvalidPosition q_InvalidPosition
  have q_InvalidNumber : ∀ n, n ∈ six ++ (oddA ++ oddB) → P2 K mg "InvalidNumber" n (decide (n = "InvalidNumber")) := by
    intro n hn
    simp only [six, oddA, oddB, List.cons_append, List.nil_append, List.mem_cons, List.not_mem_nil, or_false] at hn
    rcases hn with rfl | rfl | rfl | rfl | rfl | rfl | rfl | rfl | rfl | rfl | rfl | rfl | rfl | rfl | rfl | rfl | rfl | rfl
    · exact Y.k_InvalidNumber_InvalidSequence
    · exact Y.k_InvalidNumber_InvalidState
    · exact Y.k_InvalidNumber_InvalidPosition
    · exact Y.k_InvalidNumber_InvalidNumber
    · exact Y.k_InvalidNumber_InvalidItems
    · exact Y.k_InvalidNumber_TooLong
    · exact Y.k_InvalidNumber_Contradiction
    · exact Y.k_InvalidNumber_Impossible
    · exact Y.k_InvalidNumber_InvalidCommand
    · exact Y.k_InvalidNumber_InvalidCounts
    · exact Y.k_InvalidNumber_InvalidEffects
    · exact Y.k_InvalidNumber_InvalidKind
    · exact Y.k_InvalidNumber_InvalidKinds
    · exact Y.k_InvalidNumber_InvalidRecord
    · exact Y.k_InvalidNumber_InvalidText
    · exact Y.k_InvalidNumber_NothingToUndo
    · exact Y.k_InvalidNumber_SameEffect
    · exact Y.k_InvalidNumber_TooMany
  obtain ⟨F_InvalidNumber, X_InvalidNumber⟩ := clsF_of Y.p_InvalidNumber q_InvalidNumber
  have CM := cmg_of Y.p_InvalidSequence q_InvalidSequence
  have g_is_whole := ok_is_whole (P := P) (w := w) (base := base) Y.d_is_whole T
  have g_is_within := ok_is_within (P := P) (w := w) (base := base) Y.d_is_within g_is_whole
  have g_is_listed := ok_is_listed (P := P) (w := w) (base := base) Y.d_is_listed T
  have g_is_couple := ok_is_couple (P := P) (w := w) (base := base) Y.d_is_couple T
  have g_is_kind := ok_is_kind (P := P) (w := w) (base := base) Y.d_is_kind T
  have g_is_run := ok_is_run (P := P) (w := w) (base := base) Y.d_is_run T g_is_couple g_is_kind g_is_within
  have g_is_sequence := ok_is_sequence (P := P) (w := w) (base := base) Y.d_is_sequence T g_is_listed g_is_run
  have g_checked_runs := ok_checked_runs (P := P) (w := w) (base := base) Y.d_checked_runs T X_InvalidSequence g_is_sequence
  have g_length_of := ok_length_of (P := P) (w := w) (base := base) Y.d_length_of T
  have g_cut := ok_cut (P := P) (w := w) (base := base) Y.d_cut T
  have g_waiting_number := ok_waiting_number (P := P) (w := w) (base := base) Y.d_waiting_number
  have g_leaving_number := ok_leaving_number (P := P) (w := w) (base := base) Y.d_leaving_number T
  have g_state_with := ok_state_with (P := P) (w := w) (base := base) Y.d_state_with
  have g_state_after_run := ok_state_after_run (P := P) (w := w) (base := base) Y.d_state_after_run g_waiting_number g_state_with
  have g_state_after_runs := ok_state_after_runs (P := P) (w := w) (base := base) Y.d_state_after_runs g_state_after_run
  have g_check_moment := ok_check_moment (P := P) (w := w) (base := base) Y.d_check_moment X_InvalidPosition g_is_within g_length_of
  have g_without_first := ok_without_first (P := P) (w := w) (base := base) Y.d_without_first T
  have g_add_range := ok_add_range (P := P) (w := w) (base := base) Y.d_add_range
  have g_ranges_after_run := ok_ranges_after_run (P := P) (w := w) (base := base) Y.d_ranges_after_run g_without_first g_add_range
  have g_blocks_of_run := ok_blocks_of_run (P := P) (w := w) (base := base) Y.d_blocks_of_run T
  have g_add_block := ok_add_block (P := P) (w := w) (base := base) Y.d_add_block
  have g_blocks_of := ok_blocks_of (P := P) (w := w) (base := base) Y.d_blocks_of g_leaving_number g_blocks_of_run g_add_block g_ranges_after_run g_state_after_run
  have g_pairs_in := ok_pairs_in (P := P) (w := w) (base := base) Y.d_pairs_in T
  have g_partner_in := ok_partner_in (P := P) (w := w) (base := base) Y.d_partner_in
  have g_check_position := ok_check_position (P := P) (w := w) (base := base) Y.d_check_position X_InvalidPosition g_is_within g_length_of
  have g_partner_of := ok_partner_of (P := P) (w := w) (base := base) Y.d_partner_of g_checked_runs g_check_position g_blocks_of g_partner_in
  have g_pair_count := ok_pair_count (P := P) (w := w) (base := base) Y.d_pair_count g_checked_runs g_length_of g_check_moment g_cut g_state_after_runs g_waiting_number
  have g_pairs_of := ok_pairs_of (P := P) (w := w) (base := base) Y.d_pairs_of g_checked_runs g_blocks_of
  have g_nth_pair := ok_nth_pair (P := P) (w := w) (base := base) Y.d_nth_pair X_InvalidNumber g_checked_runs g_blocks_of g_pairs_in g_is_within
  have g_longest_wait := ok_longest_wait (P := P) (w := w) (base := base) Y.d_longest_wait g_checked_runs g_blocks_of
  have g_is_pair := ok_is_pair (P := P) (w := w) (base := base) Y.d_is_pair g_is_couple g_is_whole
  have g_is_pairing := ok_is_pairing (P := P) (w := w) (base := base) Y.d_is_pairing T g_checked_runs g_blocks_of g_pairs_in g_is_listed g_is_pair
  have g_law_draw := ok_law_draw (P := P) (w := w) (base := base) Y.d_law_draw T
  have g_law_spring := ok_law_spring (P := P) (w := w) (base := base) Y.d_law_spring T
  have g_law_sequence := ok_law_sequence (P := P) (w := w) (base := base) Y.d_law_sequence T g_law_draw
  have g_law_class := ok_law_class (P := P) (w := w) (base := base) Y.d_law_class T CM
  have g_law_asked := ok_law_asked (P := P) (w := w) (base := base) Y.d_law_asked T CM F_InvalidSequence F_InvalidNumber F_InvalidPosition g_law_class g_partner_of g_pair_count.has g_nth_pair g_pairs_of g_longest_wait g_is_pairing
  have g_law_no_sequence := ok_law_no_sequence (P := P) (w := w) (base := base) Y.d_law_no_sequence T g_law_draw
  exact fn_law F T g_law_spring g_law_draw g_law_sequence g_law_no_sequence g_pair_count g_law_asked
theorem all_mk {P : Program} {w : World} {K : PySem.W.Frag} {h : Heap} {mg : Str → Option Value} {fa f : Addr} {od an : Option Addr} {sl : Array (Option Value)} {oc kV dc pm cd ct : Value} (X : K.In h) (G : h.Ns mainGlobals mg) (hfa : mg "law" = some (.ref fa)) (a : PySem.W.nsIn K mainGlobals "law" = some (some (.ref f)))
    (l : K.lookup f = some ⟨oc, od, .func (PySem.W.fnOf "law" "law" (defArgs s_law) (defBody s_law) (defScope s_law) .none kV dc pm an cd ct), sl⟩) (c : PySem.W.codeIn K cd "law" = true) (k : PySem.W.keepIn K (.ref f) = true) (Y : Top K mg) :
    ∃ fd : FuncData, (∀ (s : Shared) (v : Value), BindsTo s fd ⟨[v], []⟩ [("script", v)]) ∧ ∀ base : Heap, K.In base → base.Ns mainGlobals mg → FnC P w K mg base fa fd ["script"] (sp_law K) := by
  have e := hfa.symm.trans (PySem.W.mg_of X G a)
  cases e
  exact ⟨_, fun s v => .of_eq rfl, fun base _ _ => Y.law (fun_mk (st := s_law) l c k) base⟩
end UP
open PySem PySem.W PyProof.Rows
set_option maxHeartbeats 0 in
theorem PySem.Challenge.cw_unlikepairs_k15_partner_errors_holds : PySem.Challenge.rw_unlikepairs_k15_partner_errors.Holds := by
  w_on; o_law; k_head; (case hw => w_witness2)
  k_fill
  refine UP.walkC (l := PySem.Challenge.rw_unlikepairs_k15_partner_errors) (n := 63) (x := "script") (sp := fun w => UP.sp_law _) rfl (by decide) rfl (fun w h Y => PySem.W.kIn_of Y) ?F (fun _ _ a ns hl hS => ⟨a, ns, rfl, hS, hl, fun _ => rfl⟩)
  case F =>
    intro w mg fa h KX G hmg
    refine' UP.all_mk KX G hmg ?a ?l ?c ?k ?Y
    (case a => k_is); (case l => k_is); (case c => k_is); (case k => k_is)
    case Y =>
      constructor
      · constructor
        · refine' PySem.W.mg_none_of KX G ?z; (case z => k_is)
        · refine' PySem.W.mg_none_of KX G ?z; (case z => k_is)
        · refine' PySem.W.mg_none_of KX G ?z; (case z => k_is)
        · refine' PySem.W.mg_none_of KX G ?z; (case z => k_is)
        · refine' PySem.W.mg_none_of KX G ?z; (case z => k_is)
        · refine' PySem.W.mg_none_of KX G ?z; (case z => k_is)
        · refine' PySem.W.mg_none_of KX G ?z; (case z => k_is)
        · refine' PySem.W.mg_none_of KX G ?z; (case z => k_is)
        · refine' PySem.W.mg_none_of KX G ?z; (case z => k_is)
        · refine' PySem.W.mg_none_of KX G ?z; (case z => k_is)
        · refine' PySem.W.mg_none_of KX G ?z; (case z => k_is)
        · refine' PySem.W.mg_none_of KX G ?z; (case z => k_is)
        · refine' PySem.W.mg_none_of KX G ?z; (case z => k_is)
        · refine' PySem.W.mg_none_of KX G ?z; (case z => k_is)
        · refine' PySem.W.mg_none_of KX G ?z; (case z => k_is)
        · refine' PySem.W.mg_none_of KX G ?z; (case z => k_is)
        · refine' PySem.W.mg_none_of KX G ?z; (case z => k_is)
        · refine' PySem.W.mg_none_of KX G ?z; (case z => k_is)
        · refine' PySem.W.mg_none_of KX G ?z; (case z => k_is)
        · refine' PySem.W.mg_none_of KX G ?z; (case z => k_is)
        · refine' PySem.W.mg_none_of KX G ?z; (case z => k_is)
        · refine' PySem.W.mg_none_of KX G ?z; (case z => k_is)
        · refine' UP.cst_mk KX G ?z; (case z => k_is)
        · refine' UP.cst_mk KX G ?z; (case z => k_is)
        · refine' UP.cst_mk KX G ?z; (case z => k_is)
        · refine' UP.cst_mk KX G ?z; (case z => k_is)
      · refine' UP.p1_mk KX G ?a ?b ?x ?k ?bs ?t ?e1 ?e2 ?e3 ?e4 ?e5 ?e6 ?e7 ?m ?k1 ?k2; (case a => k_is); (case b => k_is); (case x => first | k_exc | k_is); (case k => k_is); (case bs => k_is); (case t => k_is); (case e1 => k_is); (case e2 => k_is); (case e3 => k_is); (case e4 => k_is); (case e5 => k_is); (case e6 => k_is); (case e7 => k_is); (case m => kts_exm); (case k1 => kit_is); (case k2 => kit_is)
      · refine' UP.p2_mk KX G ?a ?b ?k; (case a => k_is); (case b => k_is); (case k => kit_is)
      · refine' UP.p2_mk KX G ?a ?b ?k; (case a => k_is); (case b => k_is); (case k => kit_is)
      · refine' UP.p2_mk KX G ?a ?b ?k; (case a => k_is); (case b => k_is); (case k => kit_is)
      · refine' UP.p2_mk KX G ?a ?b ?k; (case a => k_is); (case b => k_is); (case k => kit_is)
      · refine' UP.p2_mk KX G ?a ?b ?k; (case a => k_is); (case b => k_is); (case k => kit_is)
      · refine' UP.p2_mk KX G ?a ?b ?k; (case a => k_is); (case b => k_is); (case k => kit_is)
      · refine' UP.p2_mk KX G ?a ?b ?k; (case a => k_is); (case b => k_is); (case k => kit_is)
      · refine' UP.p2_mk KX G ?a ?b ?k; (case a => k_is); (case b => k_is); (case k => kit_is)
      · refine' UP.p2_mk KX G ?a ?b ?k; (case a => k_is); (case b => k_is); (case k => kit_is)
      · refine' UP.p2_mk KX G ?a ?b ?k; (case a => k_is); (case b => k_is); (case k => kit_is)
      · refine' UP.p2_mk KX G ?a ?b ?k; (case a => k_is); (case b => k_is); (case k => kit_is)
      · refine' UP.p2_mk KX G ?a ?b ?k; (case a => k_is); (case b => k_is); (case k => kit_is)
      · refine' UP.p2_mk KX G ?a ?b ?k; (case a => k_is); (case b => k_is); (case k => kit_is)
      · refine' UP.p2_mk KX G ?a ?b ?k; (case a => k_is); (case b => k_is); (case k => kit_is)
      · refine' UP.p2_mk KX G ?a ?b ?k; (case a => k_is); (case b => k_is); (case k => kit_is)
      · refine' UP.p2_mk KX G ?a ?b ?k; (case a => k_is); (case b => k_is); (case k => kit_is)
      · refine' UP.p2_mk KX G ?a ?b ?k; (case a => k_is); (case b => k_is); (case k => kit_is)
      · refine' UP.p2_mk KX G ?a ?b ?k; (case a => k_is); (case b => k_is); (case k => kit_is)
      · refine' UP.p1_mk KX G ?a ?b ?x ?k ?bs ?t ?e1 ?e2 ?e3 ?e4 ?e5 ?e6 ?e7 ?m ?k1 ?k2; (case a => k_is); (case b => k_is); (case x => first | k_exc | k_is); (case k => k_is); (case bs => k_is); (case t => k_is); (case e1 => k_is); (case e2 => k_is); (case e3 => k_is); (case e4 => k_is); (case e5 => k_is); (case e6 => k_is); (case e7 => k_is); (case m => kts_exm); (case k1 => kit_is); (case k2 => kit_is)
      · refine' UP.p2_mk KX G ?a ?b ?k; (case a => k_is); (case b => k_is); (case k => kit_is)
      · refine' UP.p2_mk KX G ?a ?b ?k; (case a => k_is); (case b => k_is); (case k => kit_is)
      · refine' UP.p2_mk KX G ?a ?b ?k; (case a => k_is); (case b => k_is); (case k => kit_is)
      · refine' UP.p2_mk KX G ?a ?b ?k; (case a => k_is); (case b => k_is); (case k => kit_is)
      · refine' UP.p2_mk KX G ?a ?b ?k; (case a => k_is); (case b => k_is); (case k => kit_is)
      · refine' UP.p2_mk KX G ?a ?b ?k; (case a => k_is); (case b => k_is); (case k => kit_is)
      · refine' UP.p2_mk KX G ?a ?b ?k; (case a => k_is); (case b => k_is); (case k => kit_is)
      · refine' UP.p2_mk KX G ?a ?b ?k; (case a => k_is); (case b => k_is); (case k => kit_is)
      · refine' UP.p2_mk KX G ?a ?b ?k; (case a => k_is); (case b => k_is); (case k => kit_is)
      · refine' UP.p2_mk KX G ?a ?b ?k; (case a => k_is); (case b => k_is); (case k => kit_is)
      · refine' UP.p2_mk KX G ?a ?b ?k; (case a => k_is); (case b => k_is); (case k => kit_is)
      · refine' UP.p2_mk KX G ?a ?b ?k; (case a => k_is); (case b => k_is); (case k => kit_is)
      · refine' UP.p2_mk KX G ?a ?b ?k; (case a => k_is); (case b => k_is); (case k => kit_is)
      · refine' UP.p2_mk KX G ?a ?b ?k; (case a => k_is); (case b => k_is); (case k => kit_is)
      · refine' UP.p2_mk KX G ?a ?b ?k; (case a => k_is); (case b => k_is); (case k => kit_is)
      · refine' UP.p2_mk KX G ?a ?b ?k; (case a => k_is); (case b => k_is); (case k => kit_is)
      · refine' UP.p2_mk KX G ?a ?b ?k; (case a => k_is); (case b => k_is); (case k => kit_is)
      · refine' UP.p2_mk KX G ?a ?b ?k; (case a => k_is); (case b => k_is); (case k => kit_is)
      · refine' UP.p1_mk KX G ?a ?b ?x ?k ?bs ?t ?e1 ?e2 ?e3 ?e4 ?e5 ?e6 ?e7 ?m ?k1 ?k2; (case a => k_is); (case b => k_is); (case x => first | k_exc | k_is); (case k => k_is); (case bs => k_is); (case t => k_is); (case e1 => k_is); (case e2 => k_is); (case e3 => k_is); (case e4 => k_is); (case e5 => k_is); (case e6 => k_is); (case e7 => k_is); (case m => kts_exm); (case k1 => kit_is); (case k2 => kit_is)
      · refine' UP.p2_mk KX G ?a ?b ?k; (case a => k_is); (case b => k_is); (case k => kit_is)
      · refine' UP.p2_mk KX G ?a ?b ?k; (case a => k_is); (case b => k_is); (case k => kit_is)
      · refine' UP.p2_mk KX G ?a ?b ?k; (case a => k_is); (case b => k_is); (case k => kit_is)
      · refine' UP.p2_mk KX G ?a ?b ?k; (case a => k_is); (case b => k_is); (case k => kit_is)
      · refine' UP.p2_mk KX G ?a ?b ?k; (case a => k_is); (case b => k_is); (case k => kit_is)
      · refine' UP.p2_mk KX G ?a ?b ?k; (case a => k_is); (case b => k_is); (case k => kit_is)
      · refine' UP.p2_mk KX G ?a ?b ?k; (case a => k_is); (case b => k_is); (case k => kit_is)
      · refine' UP.p2_mk KX G ?a ?b ?k; (case a => k_is); (case b => k_is); (case k => kit_is)
      · refine' UP.p2_mk KX G ?a ?b ?k; (case a => k_is); (case b => k_is); (case k => kit_is)
      · refine' UP.p2_mk KX G ?a ?b ?k; (case a => k_is); (case b => k_is); (case k => kit_is)
      · refine' UP.p2_mk KX G ?a ?b ?k; (case a => k_is); (case b => k_is); (case k => kit_is)
      · refine' UP.p2_mk KX G ?a ?b ?k; (case a => k_is); (case b => k_is); (case k => kit_is)
      · refine' UP.p2_mk KX G ?a ?b ?k; (case a => k_is); (case b => k_is); (case k => kit_is)
      · refine' UP.p2_mk KX G ?a ?b ?k; (case a => k_is); (case b => k_is); (case k => kit_is)
      · refine' UP.p2_mk KX G ?a ?b ?k; (case a => k_is); (case b => k_is); (case k => kit_is)
      · refine' UP.p2_mk KX G ?a ?b ?k; (case a => k_is); (case b => k_is); (case k => kit_is)
      · refine' UP.p2_mk KX G ?a ?b ?k; (case a => k_is); (case b => k_is); (case k => kit_is)
      · refine' UP.p2_mk KX G ?a ?b ?k; (case a => k_is); (case b => k_is); (case k => kit_is)
      · refine' UP.df_mk KX G ?a ?l ?c ?k; (case a => k_is); (case l => k_is); (case c => k_is); (case k => k_is)
      · refine' UP.df_mk KX G ?a ?l ?c ?k; (case a => k_is); (case l => k_is); (case c => k_is); (case k => k_is)
      · refine' UP.df_mk KX G ?a ?l ?c ?k; (case a => k_is); (case l => k_is); (case c => k_is); (case k => k_is)
      · refine' UP.df_mk KX G ?a ?l ?c ?k; (case a => k_is); (case l => k_is); (case c => k_is); (case k => k_is)
      · refine' UP.df_mk KX G ?a ?l ?c ?k; (case a => k_is); (case l => k_is); (case c => k_is); (case k => k_is)
      · refine' UP.df_mk KX G ?a ?l ?c ?k; (case a => k_is); (case l => k_is); (case c => k_is); (case k => k_is)
      · refine' UP.df_mk KX G ?a ?l ?c ?k; (case a => k_is); (case l => k_is); (case c => k_is); (case k => k_is)
      · refine' UP.df_mk KX G ?a ?l ?c ?k; (case a => k_is); (case l => k_is); (case c => k_is); (case k => k_is)
      · refine' UP.df_mk KX G ?a ?l ?c ?k; (case a => k_is); (case l => k_is); (case c => k_is); (case k => k_is)
      · refine' UP.df_mk KX G ?a ?l ?c ?k; (case a => k_is); (case l => k_is); (case c => k_is); (case k => k_is)
      · refine' UP.df_mk KX G ?a ?l ?c ?k; (case a => k_is); (case l => k_is); (case c => k_is); (case k => k_is)
      · refine' UP.df_mk KX G ?a ?l ?c ?k; (case a => k_is); (case l => k_is); (case c => k_is); (case k => k_is)
      · refine' UP.df_mk KX G ?a ?l ?c ?k; (case a => k_is); (case l => k_is); (case c => k_is); (case k => k_is)
      · refine' UP.df_mk KX G ?a ?l ?c ?k; (case a => k_is); (case l => k_is); (case c => k_is); (case k => k_is)
      · refine' UP.df_mk KX G ?a ?l ?c ?k; (case a => k_is); (case l => k_is); (case c => k_is); (case k => k_is)
      · refine' UP.df_mk KX G ?a ?l ?c ?k; (case a => k_is); (case l => k_is); (case c => k_is); (case k => k_is)
      · refine' UP.df_mk KX G ?a ?l ?c ?k; (case a => k_is); (case l => k_is); (case c => k_is); (case k => k_is)
      · refine' UP.df_mk KX G ?a ?l ?c ?k; (case a => k_is); (case l => k_is); (case c => k_is); (case k => k_is)
      · refine' UP.df_mk KX G ?a ?l ?c ?k; (case a => k_is); (case l => k_is); (case c => k_is); (case k => k_is)
      · refine' UP.df_mk KX G ?a ?l ?c ?k; (case a => k_is); (case l => k_is); (case c => k_is); (case k => k_is)
      · refine' UP.df_mk KX G ?a ?l ?c ?k; (case a => k_is); (case l => k_is); (case c => k_is); (case k => k_is)
      · refine' UP.df_mk KX G ?a ?l ?c ?k; (case a => k_is); (case l => k_is); (case c => k_is); (case k => k_is)
      · refine' UP.df_mk KX G ?a ?l ?c ?k; (case a => k_is); (case l => k_is); (case c => k_is); (case k => k_is)
      · refine' UP.df_mk KX G ?a ?l ?c ?k; (case a => k_is); (case l => k_is); (case c => k_is); (case k => k_is)
      · refine' UP.df_mk KX G ?a ?l ?c ?k; (case a => k_is); (case l => k_is); (case c => k_is); (case k => k_is)
      · refine' UP.df_mk KX G ?a ?l ?c ?k; (case a => k_is); (case l => k_is); (case c => k_is); (case k => k_is)
      · refine' UP.df_mk KX G ?a ?l ?c ?k; (case a => k_is); (case l => k_is); (case c => k_is); (case k => k_is)
      · refine' UP.dfd_mk KX G ?a ?l ?t ?c ?k; (case a => k_is); (case l => k_is); (case t => k_is); (case c => k_is); (case k => k_is)
      · refine' UP.df_mk KX G ?a ?l ?c ?k; (case a => k_is); (case l => k_is); (case c => k_is); (case k => k_is)
      · refine' UP.df_mk KX G ?a ?l ?c ?k; (case a => k_is); (case l => k_is); (case c => k_is); (case k => k_is)
      · refine' UP.df_mk KX G ?a ?l ?c ?k; (case a => k_is); (case l => k_is); (case c => k_is); (case k => k_is)
      · refine' UP.df_mk KX G ?a ?l ?c ?k; (case a => k_is); (case l => k_is); (case c => k_is); (case k => k_is)
      · refine' UP.df_mk KX G ?a ?l ?c ?k; (case a => k_is); (case l => k_is); (case c => k_is); (case k => k_is)
      · refine' UP.df_mk KX G ?a ?l ?c ?k; (case a => k_is); (case l => k_is); (case c => k_is); (case k => k_is)
      · refine' UP.df_mk KX G ?a ?l ?c ?k; (case a => k_is); (case l => k_is); (case c => k_is); (case k => k_is)
      · refine' UP.df_mk KX G ?a ?l ?c ?k; (case a => k_is); (case l => k_is); (case c => k_is); (case k => k_is)
      · refine' UP.df_mk KX G ?a ?l ?c ?k; (case a => k_is); (case l => k_is); (case c => k_is); (case k => k_is)
      · refine' UP.df_mk KX G ?a ?l ?c ?k; (case a => k_is); (case l => k_is); (case c => k_is); (case k => k_is)
