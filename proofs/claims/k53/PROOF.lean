import PyProof.Rows.All
import Wide.All
import OpenK.AllK
import Wide.FinOn
import HandS.ForMost
import HandS.Wide
import HandS.IsInst
import HandS.Defaults
import HandS.Codes
import HandS.Style
import PyProof.ReprRoads
import PyProof.ReprLen
import HandS.Zip
import HandS.NoneIn
import HandS.TupAny
import HandS.Small
import HandS.RaiseMore
import PyProof.CallFns
import HandS.Text
import HandS.More
import HandS.FStr
import PyProof.StrOps2
import PySem.Challenge.RW_unlikepairs_k53_sequences_and_states_as
set_option Elab.async false
set_option linter.all false
set_option maxRecDepth 100000
set_option maxHeartbeats 4000000
namespace UP
open PySem PySem.Spec PyProof.Rows L2

/-! ### a def that keeps a promise, by its name -/
section
variable (P : Program) (w : World) (K : PySem.W.Frag) (mg : Str → Option Value) (base : Heap)
def Has (k : Nat) (x : Str) (ps : List Str) (sp : Sp) : Prop :=
  ∃ f fd, mg x = some (.ref f) ∧ PySem.W.keepIn K (.ref f) = true ∧ Binds K fd ps [] ∧ FnOk P w K mg base CX0 k f fd ps sp
def Df (x : Str) (st : Stmt) : Prop := ∃ f fd, mg x = some (.ref f) ∧ Fun K x x st f fd
end
theorem Df.of {K : PySem.W.Frag} {mg : Str → Option Value} {x : Str} {st : Stmt} {f : Addr} {fd : FuncData} (g : mg x = some (.ref f)) (F : Fun K x x st f fd) : Df K mg x st := ⟨f, fd, g, F⟩
section
variable {P : Program} {w : World} {K : PySem.W.Frag} {mg : Str → Option Value} {base : Heap}
theorem has_of {x : Str} {st : Stmt} {ps N : List Str} {k : Nat} {sp : Sp} (D : Df K mg x st) (S : FnScope N ps (defScope st))
    (hb : ∀ (kV doc pm : Value) (an : Option Addr) (cdv ct : Value) (us : List Value), us.length = ps.length → bindArgs (PySem.W.fnOf x x (defArgs st) (defBody st) (defScope st) .none kV doc pm an cdv ct) ⟨us, []⟩ = pure (ps.zip us))
    (len : ∀ vs H Q E, sp vs H Q E → vs.length = ps.length)
    (body : ∀ (f : Addr) (cdv : Value) (A : Around) (outer : List Env) (s : Shared) (H : Hp) (vs : List V) (Q : VK) (E : XK), Room k (A.deeper (envOfC x (defScope st) s.heap.objs.size f cdv)) → sp vs H Q E →
      ∃ t, PSs (cxOf CX0 P w K mg base N x (defScope st) f cdv A outer s H E).nox (defBody st) t ∧ t { nx := fun _ H' => Q .non H', rt := Q } (start N vs) H) :
    Has P w K mg base (k + 1) x ps sp := by
  obtain ⟨f, fd, g, F⟩ := D
  exact ⟨f, fd, g, F.kp, F.binds hb, F.ok S len fun cdv A outer s H vs Q E hr h => body f cdv A outer s H vs Q E hr h⟩
theorem Has.weak {x : Str} {ps : List Str} {k : Nat} {sp sp' : Sp} (h : Has P w K mg base k x ps sp) (e : sp = sp') : Has P w K mg base k x ps sp' := e ▸ h
end
section
variable {X : Cx}
theorem pe_callH {k : Nat} {x : Str} {ps : List Str} {sp : Sp} {p pos : Pos} {e : Expr} {es : List Expr} {t : TA} (G : Has X.prog X.w X.K X.mg X.base k x ps sp) (hr : Room k X.A) (hg : Gl X x) (ha : PA X (e :: es) t)
    (hdb : (x == ("__debug__" : Str)) = false := by decide) (he : starEach (e :: es) X.env = (false, eval e X.env) :: starEach es X.env := by rfl) (hpl : (backTo pos (starEach es X.env)).any (·.1) = false := by rfl) :
    PE X (.Call (.Name x p) (e :: es) [] pos) (tCall sp [] E0 t) := by
  obtain ⟨f, fd, g, kp, b, F⟩ := G
  exact pe_call F hr hg g kp b .nil pass0 ha hdb he hpl
theorem pe_glI {x : Str} {i : Int} {pos : Pos} (h : ∃ t, X.mg x = some (.int i t)) (hg : Gl X x) (hd : (x == ("__debug__" : Str)) = false := by decide) : PE X (.Name x pos) (tC (.int i)) := by
  obtain ⟨t, h⟩ := h
  exact pe_glob hg h ⟨t, rfl⟩ hd
end

/-! ### heaps -/
theorem same_upd {H : Hp} {p : Addr} {o : HO} (h : H p = none) : Same H (upd H p o) := fun b x e => by
  rw [upd_ne (ne_of_none e h)]
  exact e
/-- all but the object at sp is as it was -/
def But (sp : Addr) (H H' : Hp) : Prop := ∀ b o, b ≠ sp → H b = some o → H' b = some o
theorem Same.but {sp : Addr} {H H' : Hp} (h : Same H H') : But sp H H' := fun b o _ e => h b o e
theorem But.trans {sp : Addr} {H H1 H2 : Hp} (a : But sp H H1) (b : But sp H1 H2) : But sp H H2 := fun c o n e => b c o n (a c o n e)
theorem But.refl {sp : Addr} {H : Hp} : But sp H H := fun _ _ _ e => e
theorem but_upd {sp : Addr} {H : Hp} {o : HO} : But sp H (upd H sp o) := fun b x n e => by
  rw [upd_ne n]
  exact e
theorem small {n : Nat} (h : n ≤ 1000000) : n < sizeLine := Nat.lt_of_le_of_lt h (by decide)
theorem smallE {n : Nat} (h : n ≤ 1000000) : n ≤ sizeLine := Nat.le_of_lt (small h)

/-! ### runs and states -/
abbrev Run := Str × Int
def RunV (H : Hp) (v : V) (r : Run) : Prop := ∃ t, v = .ref t ∧ H t = some (.tup [.str r.1, .int r.2])
def Runs (H : Hp) (a : Addr) (rs : List Run) : Prop := ∃ xs, H a = some (.lst xs) ∧ Paired (RunV H) xs rs
def StV (H : Hp) (v : V) : Option Run → Prop
  | none => v = .non
  | some r => RunV H v r
theorem RunV.same {H H' : Hp} {v : V} {r : Run} (s : Same H H') (h : RunV H v r) : RunV H' v r := by
  obtain ⟨t, e, h⟩ := h
  exact ⟨t, e, s _ _ h⟩
theorem Paired.len {α β : Type} {F : α → β → Prop} : ∀ {l₁ : List α} {l₂ : List β}, Paired F l₁ l₂ → l₁.length = l₂.length
  | _, _, .nil => rfl
  | _, _, .cons _ t => congrArg Nat.succ (Paired.len t)
theorem Paired.at {α β : Type} {F : α → β → Prop} : ∀ {l₁ : List α} {l₂ : List β} {i : Nat} {x : α}, Paired F l₁ l₂ → l₁[i]? = some x → ∃ y, l₂[i]? = some y ∧ F x y
  | _, _, _, _, .nil, h => by simp at h
  | _, _, 0, _, .cons h _, e => by
    simp only [List.getElem?_cons_zero, Option.some.injEq] at e
    subst e
    exact ⟨_, by simp, h⟩
  | _, _, i + 1, _, .cons _ t, e => by
    simp only [List.getElem?_cons_succ] at e ⊢
    exact Paired.at t e
theorem Paired.at' {α β : Type} {F : α → β → Prop} : ∀ {l₁ : List α} {l₂ : List β} {i : Nat} {y : β}, Paired F l₁ l₂ → l₂[i]? = some y → ∃ x, l₁[i]? = some x ∧ F x y
  | _, _, _, _, .nil, h => by simp at h
  | _, _, 0, _, .cons h _, e => by
    simp only [List.getElem?_cons_zero, Option.some.injEq] at e
    subst e
    exact ⟨_, by simp, h⟩
  | _, _, i + 1, _, .cons _ t, e => by
    simp only [List.getElem?_cons_succ] at e ⊢
    exact Paired.at' t e
theorem Paired.imp {α β : Type} {F G : α → β → Prop} (f : ∀ a b, F a b → G a b) : ∀ {l₁ : List α} {l₂ : List β}, Paired F l₁ l₂ → Paired G l₁ l₂
  | _, _, .nil => .nil
  | _, _, .cons h t => .cons (f _ _ h) (Paired.imp f t)
theorem Paired.app {α β : Type} {F : α → β → Prop} : ∀ {l₁ m₁ : List α} {l₂ m₂ : List β}, Paired F l₁ l₂ → Paired F m₁ m₂ → Paired F (l₁ ++ m₁) (l₂ ++ m₂)
  | _, _, _, _, .nil, h => h
  | _, _, _, _, .cons h t, k => .cons h (Paired.app t k)
theorem Paired.dropp {α β : Type} {F : α → β → Prop} : ∀ {l₁ : List α} {l₂ : List β} (n : Nat), Paired F l₁ l₂ → Paired F (l₁.drop n) (l₂.drop n)
  | _, _, 0, h => h
  | _, _, n + 1, .nil => .nil
  | _, _, n + 1, .cons _ t => by
    simp only [List.drop_succ_cons]
    exact Paired.dropp n t
theorem Paired.takep {α β : Type} {F : α → β → Prop} : ∀ {l₁ : List α} {l₂ : List β} (n : Nat), Paired F l₁ l₂ → Paired F (l₁.take n) (l₂.take n)
  | _, _, 0, h => by simp only [List.take_zero]; exact .nil
  | _, _, n + 1, .nil => .nil
  | _, _, n + 1, .cons h t => by
    simp only [List.take_succ_cons]
    exact .cons h (Paired.takep n t)
theorem Runs.same {H H' : Hp} {a : Addr} {rs : List Run} (s : Same H H') (h : Runs H a rs) : Runs H' a rs := by
  obtain ⟨xs, e, p⟩ := h
  exact ⟨xs, s _ _ e, Paired.imp (fun _ _ => RunV.same s) p⟩
theorem StV.same {H H' : Hp} {v : V} {st : Option Run} (s : Same H H') (h : StV H v st) : StV H' v st := by
  cases st with
  | none => exact h
  | some r => exact RunV.same s h
/-- the spring: a list of three ints -/
def Spr (H : Hp) (sp : Addr) : Prop := ∃ d s c : Int, H sp = some (.lst [.int d, .int s, .int c]) ∧ 0 ≤ d ∧ d.natAbs < 2 ^ 20000 ∧ 0 ≤ s ∧ s < 2305843009213693951
theorem RunV.but {H H' : Hp} {sp : Addr} {v : V} {r : Run} (z : Spr H sp) (s : But sp H H') (h : RunV H v r) : RunV H' v r := by
  obtain ⟨t, e, h⟩ := h
  obtain ⟨_, _, _, hs, _⟩ := z
  exact ⟨t, e, s _ _ (ne_of h hs (by intro q; cases q)) h⟩
theorem Runs.ne {H : Hp} {sp a : Addr} {rs : List Run} (z : Spr H sp) (h : Runs H a rs) : a ≠ sp := by
  obtain ⟨xs, e, p⟩ := h
  obtain ⟨d, s, c, hs, _⟩ := z
  refine ne_of e hs fun q => ?_
  have q := HO.lst.inj q
  subst q
  cases p with
  | cons h _ =>
    obtain ⟨t, e, _⟩ := h
    cases e
theorem Runs.but {H H' : Hp} {sp a : Addr} {rs : List Run} (z : Spr H sp) (s : But sp H H') (h : Runs H a rs) : Runs H' a rs := by
  have n := Runs.ne z h
  obtain ⟨xs, e, p⟩ := h
  exact ⟨xs, s _ _ n e, Paired.imp (fun _ _ => RunV.but z s) p⟩
theorem StV.but {H H' : Hp} {sp : Addr} {v : V} {st : Option Run} (z : Spr H sp) (s : But sp H H') (h : StV H v st) : StV H' v st := by
  cases st with
  | none => exact h
  | some r => exact RunV.but z s h
theorem Spr.same {H H' : Hp} {sp : Addr} (z : Spr H sp) (s : Same H H') : Spr H' sp := by
  obtain ⟨d, e, c, hs, r⟩ := z
  exact ⟨d, e, c, s _ _ hs, r⟩
def KindOk (s : Str) : Prop := 1 ≤ s.length ∧ s.length ≤ 8 ∧ ∀ c ∈ s.cps.toList, 97 ≤ c ∧ c ≤ 122
def RunOk (r : Run) : Prop := KindOk r.1 ∧ 1 ≤ r.2 ∧ r.2 ≤ 1000000000000000000000000000000
def Alt (rs : List Run) : Prop := ∀ (i : Nat) (x y : Run), rs[i]? = some x → rs[i + 1]? = some y → x.1 ≠ y.1
def SeqOk (rs : List Run) : Prop := rs.length ≤ 400 ∧ (∀ r ∈ rs, RunOk r) ∧ Alt rs
end UP

set_option Elab.async false
set_option linter.all false
set_option maxRecDepth 100000
set_option maxHeartbeats 4000000
namespace UP
open PySem PySem.Spec PyProof.Rows L2
/-! ### repr of plain data, where no other repr is under way -/
def rRepr (K : PySem.W.Frag) : List V → Hp → VK → Prop := fun xs H Q => ∃ (a : Addr) (d : PyData), xs = [.ref a] ∧ Dp K H (.ref a) d ∧ d.showable = true ∧ SeqAt.shaped d = true ∧ d.shown.length ≤ sizeLine ∧ Q (.str d.shown) H
theorem call_reprD {X : Cx} (hg : X.A.guards = some []) (hu : X.A.units + 70 < cLine) : CallR X (.builtin "repr") (rRepr X.K) := by
  intro pins s σ H xs us Q I r h
  obtain ⟨a, d, rfl, dp, sh, sp, sz, q⟩ := h
  obtain ⟨u, rfl, ru⟩ := vals1 r
  cases (show u = Value.ref a from ru)
  obtain ⟨as, rd⟩ := Dp.reads I d (.ref a) (.ref a) dp rfl
  have dd := SeqAt.depth_of_shaped sp
  refine repr_of_reads' rd sh (PyData.noDict_hsm (PyData.hasDict_of_canLay d (SeqAt.canLay_of_shaped sp))) hg (by omega) (fun _ _ e => e) (fun h' u tk hk => ?_) sz
  exact ⟨.str d.shown, H, I.kept (t' := tk) hk, ⟨u, rfl⟩, q⟩
/-! ### the law's own call, around it nothing -/
structure FnC (P : Program) (w : World) (K : PySem.W.Frag) (mg : Str → Option Value) (base : Heap) (f : Addr) (fd : FuncData) (ps : List Str) (sp : Sp) : Prop where
  go : ∀ (out : List Env) (s : Shared) (H : Hp) (args : Args) (us : List Value) (vs : List V) (Q : VK) (E : XK), Env0 P w K mg base callerA out s H → BindsTo s fd args (ps.zip us) → Vals vs us → sp vs H Q E →
    codeAny (model P w) callerA (.call (.ref f) args) (CR CX0 out P w H s Q E) s
theorem callerA_room : Room 8 callerA := ⟨rfl, by decide, by decide⟩
section
variable {P : Program} {w : World} {K : PySem.W.Frag} {mg : Str → Option Value} {base : Heap}
theorem fnC_of {x : Str} {st : Stmt} {f : Addr} {fd : FuncData} {ps N : List Str} {sp : Sp} (F : Fun K x x st f fd) (S : FnScope N ps (defScope st)) (len : ∀ vs H Q E, sp vs H Q E → vs.length = ps.length)
    (body : ∀ (cdv : Value) (out : List Env) (s : Shared) (H : Hp) (vs : List V) (Q : VK) (E : XK), Room 7 (callerA.deeper (envOfC x (defScope st) s.heap.objs.size f cdv)) → sp vs H Q E →
      ∃ t, PSs (cxOf CX0 P w K mg base N x (defScope st) f cdv callerA out s H E).nox (defBody st) t ∧ t { nx := fun _ H' => Q .non H', rt := Q } (start N vs) H) : FnC P w K mg base f fd ps sp := by
  obtain ⟨oc, od, kV, doc, pm, an, cdv, ct, osl, rfl, lk, hcd⟩ := F.ex
  refine ⟨fun out s H args us vs Q E e0 hb rv hsp => ?_⟩
  have inS : K.In s.heap := e0.mod.kin.keeps fun b o z => (e0.bs b o z).1
  have noL : s.heap.NoLimit := e0.mod.nolimit.keeps fun b o z => (e0.bs b o z).1
  have kinds : ∀ y ∈ ps.zip us, (defScope st).names.lookup y.1 = some .local ∨ ((defScope st).names.lookup y.1 = some .cell ∧ ((cellsFrom (s.heap.objs.size + 1) (defScope st).names []).lookup y.1).isSome = true) := by
    intro y hy
    rcases S.par y.1 (List.of_mem_zip (a := y.1) (b := y.2) hy).1 with z | z
    · exact Or.inl z
    · exact Or.inr ⟨z, PySem.W.cellsFrom_some _ _ _ (Or.inl z)⟩
  refine codeAny_call_function callerA_room.depth (inS _ _ lk) rfl S.co S.gen rfl (PySem.W.codeRec_of inS hcd) (hb _ _ _ _ ?_)
  refine wpAny_newFunctionEnv_cells S.kind kinds fun env he s1 inC => ?_
  subst he
  refine ⟨noL.keeps inC.toInCall.keep, codeAny_func ?_⟩
  obtain ⟨t, ht0, hq⟩ := body cdv out s H vs Q E (callerA_room.deeper _) hsp
  have ht := PSs.nox ht0
  have I0 : Inv (cxOf CX0 P w K mg base N x (defScope st) f cdv callerA out s H E) [] (start N vs) H s1 := inv_start S rfl e0 (len _ _ _ _ hsp) rv inC
  refine wpAny_mono (ht.run [] s1 (start N vs) H _ I0 hq) (fun fl s2 h2 => ?_) fun _ _ z => z
  cases fl with
  | next =>
    obtain ⟨σ2, H2, J, q2⟩ := h2
    exact ⟨V.non, H2, J.os, J.bare, J.base, J.hok, rfl, q2⟩
  | ret u =>
    obtain ⟨v, σ2, H2, J, rv2, q2⟩ := h2
    exact ⟨v, H2, J.os, J.bare, J.base, J.hok, rv2, q2⟩
  | brk =>
    obtain ⟨_, _, _, z⟩ := h2
    exact z.elim
  | cont =>
    obtain ⟨_, _, _, z⟩ := h2
    exact z.elim
end
/-- the heap that holds the script alone, locked -/
def oneH (a : Addr) (o : Obj) (xs : List V) : Hp := fun b => if b = a then some (.frz o (.lst xs)) else none
theorem run_law {P : Program} {w : World} {K : PySem.W.Frag} {mg mb : Str → Option Value} {fa a : Addr} {fd : FuncData} {x : Str} {sp : Sp} {s : Shared} {vs : List Value} {ns : List Int}
    (kx : K.In s.heap) (gns : s.heap.Ns mainGlobals mg) (bns : s.heap.Ns builtinsNs mb) (bb : ∀ y : Str, y ≠ "__name__" → mb y = bootBuiltins y) (nl : s.heap.NoLimit) (gens : s.gens = #[])
    (ob : s.heap.get? a = some { cls := .type "list", data := .seq vs.toArray }) (hin : IntsAre vs ns) (len : ns.length ≤ sizeLine) (F : ∀ base : Heap, K.In base → base.Ns mainGlobals mg → FnC P w K mg base fa fd [x] sp)
    (bind : ∀ (s : Shared) (u : Value), BindsTo s fd ⟨[u], []⟩ [(x, u)]) (hsp : ∀ H : Hp, SqL K H a (ns.map V.int) → sp [.ref a] H (fun v _ => v = .bl true) fun _ _ _ => False) :
    codeAny (model P w) callerA (.call (.ref fa) ⟨[.ref a], []⟩) (fun r s' => r = .ok (.ret (.bool true)) ∧ OldK s.heap s'.heap ∧ s'.os = s.os ∧ AllBare s'.gens) s := by
  have rel := vals_ints hin
  have step : ∀ H : Hp, (H = (fun _ => none) ∨ (H = oneH a { cls := .type "list", data := .seq vs.toArray } (ns.map V.int) ∧ K.lookup a = none)) → SqL K H a (ns.map V.int) → HOk P w H s.heap →
      codeAny (model P w) callerA (.call (.ref fa) ⟨[.ref a], []⟩) (fun r s' => r = .ok (.ret (.bool true)) ∧ OldK s.heap s'.heap ∧ s'.os = s.os ∧ AllBare s'.gens) s := by
    intro H hH hS hok
    have only : ∀ b u, H b = some u → b = a ∧ u = .frz { cls := .type "list", data := .seq vs.toArray } (.lst (ns.map V.int)) ∧ K.lookup a = none := by
      intro b u e
      rcases hH with z | ⟨z, z2⟩
      · rw [z] at e
        cases e
      · rw [z] at e
        by_cases hb : b = a
        · have e := (if_pos hb).symm.trans e
          cases e
          exact ⟨hb, rfl, z2⟩
        · have e := (if_neg hb).symm.trans e
          cases e
    have free : ∀ {b : Addr} {o : Obj}, s.heap.get? b = some o → (b = a → False) → (hidT s.heap H).get? b = some o := by
      intro b o e n
      refine hidT_get e ?_
      cases q : H b with
      | none => rfl
      | some u => exact (n (only b u q).1).elim
    have nss : ∀ {b : Addr} {m : Str → Option Value}, s.heap.Ns b m → (hidT s.heap H).Ns b m := by
      intro b m ⟨o, es, ep, e, d, r⟩
      refine ⟨o, es, ep, free e fun z => ?_, d, r⟩
      subst z
      rw [ob] at e
      cases e
      cases d
    have kb : K.In (hidT s.heap H) := by
      intro b o e
      refine hidT_get (kx b o e) ?_
      cases q : H b with
      | none => rfl
      | some u =>
        obtain ⟨z1, _, z2⟩ := only b u q
        rw [z1, z2] at e
        cases e
    have md : Mod K mg (hidT s.heap H) := ⟨kb, nss gns, ⟨mb, nss bns, bb⟩, by obtain ⟨mc, h1, h2⟩ := nl; exact ⟨mc, nss h1, h2⟩⟩
    have env : Env0 P w K mg (hidT s.heap H) callerA [] s H := ⟨rfl, md, fun b o e => of_hidT e, Nat.le_of_eq (hidT_size _ _), trivial, (fun b hb => by cases hb), hok, .of_eq gens⟩
    refine codeAny_mono ((F _ kb (nss gns)).go [] s H ⟨[.ref a], []⟩ [.ref a] [.ref a] _ _ env (bind s (.ref a)) (.cons rfl .nil) (hsp H hS)) fun r s' h => ?_
    cases r with
    | error e => exact h.elim
    | ok fl =>
      cases fl with
      | next => exact h.elim
      | brk => exact h.elim
      | cont => exact h.elim
      | ret u =>
        obtain ⟨v, H', o1, o2, un, hok', rv, q⟩ := h
        have q : v = .bl true := q
        subst q
        cases (show u = Value.bool true from rv)
        refine ⟨rfl, OldK.of_keep fun b o e => ?_, o1, o2⟩
        cases q : H b with
        | none => exact un.keep b o e q (fun z => by cases z) (fun z => by cases z)
        | some u =>
          obtain ⟨_, z, _⟩ := only b u q
          subst z
          obtain ⟨e1, _⟩ := hok b _ q
          obtain ⟨e2, _⟩ := hok' b _ (un.frzs b _ _ q)
          rw [e] at e1
          cases e1
          exact e2
  cases hk : K.lookup a with
  | some o =>
    have e := kx a o hk
    rw [ob] at e
    cases e
    refine step (fun _ => none) (.inl rfl) (.inr ⟨_, vs.toArray, _, hk, rfl, rfl, rfl, ?_, by simpa using rel⟩) fun b u z => by cases z
    rw [List.size_toArray, hin.length]
    exact len
  | none =>
    have at_a : oneH a { cls := .type "list", data := .seq vs.toArray } (ns.map V.int) a = some (.frz { cls := .type "list", data := .seq vs.toArray } (.lst (ns.map V.int))) := if_pos rfl
    refine step _ (.inr ⟨rfl, hk⟩) (.inl (.inr ⟨_, at_a⟩)) fun b u z => ?_
    by_cases hb : b = a
    · subst hb
      rw [at_a] at z
      cases z
      exact ⟨ob, by rw [List.length_map]; exact len, vs, _, rel, ob⟩
    · have z := (if_neg hb).symm.trans z
      cases z
theorem walkC {l : PySem.W.OpenLaw} {n : Nat} {q : Program} {loose : List Str} {XP : (Str → Option Value) → Heap → Prop} {YP : World → Heap → Prop} {d : DefRec} {K : Params → PySem.W.Frag} {sp : World → Sp} {x : Str}
    (hn : l.most = some n) (n2 : n ≤ sizeLine) (df : d.params.defaults = []) (hY : ∀ (w : World) (h : Heap), YP w h → (K w.params).In h)
    (F : ∀ (w : World) (mg : Str → Option Value) (fa : Addr) (h : Heap), (K w.params).In h → h.Ns mainGlobals mg → mg d.name = some (.ref fa) →
      ∃ fd : FuncData, (∀ (s : Shared) (u : Value), BindsTo s fd ⟨[u], []⟩ [(x, u)]) ∧ ∀ base : Heap, (K w.params).In base → base.Ns mainGlobals mg → FnC l.prog w (K w.params) mg base fa fd [x] (sp w))
    (hsp : ∀ (w : World) (H : Hp) (a : Addr) (ns : List Int), ns.length ≤ n → SqL (K w.params) H a (ns.map V.int) → sp w [.ref a] H (fun v _ => v = .bl true) fun _ _ _ => False) :
    PySem.W.WalkO q loose XP YP l.row.toRowW d [] (fun f vs => PySem.call f vs) := by
  refine Att.attach_call hn df fun w s₀ s mg mb fa o pm cd doc a vs ns G Y ho hd hcd hmg hobj hints hlen hg => ?_
  have kx := hY w _ Y
  obtain ⟨fd, hb, hF⟩ := F w mg fa _ kx G.T.g hmg
  exact run_law kx G.T.g G.T.b G.T.builtins G.T.nolimit hg hobj hints (Nat.le_trans hlen n2) hF hb fun H hS => hsp w H a ns hlen hS
end UP

set_option Elab.async false
set_option linter.all false
set_option maxRecDepth 100000
set_option maxHeartbeats 4000000
namespace UP
open PySem PySem.Spec PyProof.Rows L2
/-! ### lists or tuples -/
def Sq2 (H : Hp) (a : Addr) (xs : List V) : Prop := H a = some (.lst xs) ∨ H a = some (.tup xs)
theorem Sq2.same {H H' : Hp} {a : Addr} {xs : List V} (s : Same H H') (h : Sq2 H a xs) : Sq2 H' a xs := h.elim (fun z => .inl (s _ _ z)) (fun z => .inr (s _ _ z))
/-- a walk over the items xs, from the heap H on -/
structure Wk (J : It) (H : Hp) (xs : List V) : Prop where
  go : ∀ i H', Same H H' → i < xs.length → J.go i H'
  stop : ∀ H', Same H H' → J.stop xs.length H'
  yld : ∀ i x H' H'', Same H H' → J.yld i H' x H'' → H'' = H' ∧ xs[i]? = some x
theorem wk_list {K : PySem.W.Frag} {H : Hp} {a : Addr} {xs : List V} (h : H a = some (.lst xs)) : Wk (Itl K a) H xs :=
  ⟨fun i H' s hi => ⟨xs, xs[i], .of (s _ _ h), List.getElem?_eq_getElem hi⟩, fun H' s => ⟨xs, .of (s _ _ h), Nat.le_refl _⟩, fun i x H' H'' s y => ⟨y.1, y.2 xs (.of (s _ _ h))⟩⟩
theorem wk_tup {K : PySem.W.Frag} {H : Hp} {a : Addr} {xs : List V} (h : H a = some (.tup xs)) : Wk (Itt K a) H xs :=
  ⟨fun i H' s hi => ⟨xs, xs[i], .of (s _ _ h), List.getElem?_eq_getElem hi⟩, fun H' s => ⟨xs, .of (s _ _ h), Nat.le_refl _⟩, fun i x H' H'' s y => ⟨y.1, y.2 xs (.of (s _ _ h))⟩⟩
def iSeqV (i : Nat) : TI := fun σ H R => ∃ a xs, σ[i]? = some (some (.ref a)) ∧ Sq2 H a xs ∧ ∀ J, Wk J H xs → R J H
section
variable {X : Cx}
theorem pi_seqV (i : Nat) {x : Str} {pos : Pos} {tg : Expr} (hN : X.N[i]? = some x := by rfl) (hv : Vis X.env.scope x := by first | exact Or.inl rfl | exact Or.inr (Or.inl rfl) | exact Or.inr (Or.inr rfl)) (hd : (x == ("__debug__" : Str)) = false := by decide)
    (hc : (x == ("__classdict__" : Str)) = false := by decide) : PI X tg (.Name x pos) (iSeqV i) := by
  refine ⟨fun pins s σ H R I hw => ?_⟩
  obtain ⟨a, xs, e, h, k⟩ := hw
  rcases h with h | h
  · exact (pi_list (pe_var hN hv hd hc)).run pins s σ H R I ⟨_, e, a, rfl, ⟨xs, .of h⟩, k _ (wk_list h)⟩
  · exact (pi_tup (pe_var hN hv hd hc)).run pins s σ H R I ⟨_, e, a, rfl, ⟨xs, .of h⟩, k _ (wk_tup h)⟩
def gAny (n : Nat) (t : TGs) : TG := fun v σ H Q => ∃ a xs, v = .ref a ∧ Sq2 H a xs ∧ xs.length = n ∧ t xs σ H Q
theorem pg_any {es : List Expr} {k n : Nat} {t : TGs} {pos : Pos} (hc : X.calm = true) (h : PGs X es t) (hn : (assignEach es X.env).length = n := by rfl) (hst : (assignEach es X.env).findIdx? (fun z => z.1) = none := by rfl) : PG X (.Tuple es k pos) (gAny n t) := by
  refine ⟨fun pins s σ H v u Q I r hw => ?_⟩
  obtain ⟨a, xs, e, hx, hl, hw⟩ := hw
  rcases hx with z | z
  · exact (pg_unl hc h hn hst).run pins s σ H v u Q I r ⟨a, xs, e, .of z, hl, hw⟩
  · exact (pg_tup hc h hn hst).run pins s σ H v u Q I r ⟨a, xs, e, .of z, hl, hw⟩
/-- zip(x, x[1:]) -/
structure WkZ (J : It) (H : Hp) (xs : List V) : Prop where
  go : ∀ i H', Same H H' → i + 1 < xs.length → J.go i H'
  stop : ∀ H', Same H H' → J.stop (xs.length - 1) H'
  yld : ∀ i x H' H'', Same H H' → J.yld i H' x H'' → ∃ T x1 x2, x = .ref T ∧ H' T = none ∧ H'' = upd H' T (.tup [x1, x2]) ∧ xs[i]? = some x1 ∧ (i + 1 < xs.length → xs[i + 1]? = some x2)
def iZip1 (i : Nat) : TI := fun σ H R => ∃ a xs, σ[i]? = some (some (.ref a)) ∧ Sq2 H a xs ∧ ∀ J H', Same H H' → WkZ J H' xs → R J H'
theorem cutt_one (xs : List V) : cutV xs (some 1) none = xs.drop 1 := by
  have e : HT.sIx xs.length 0 (some 1) = min 1 xs.length := HT.sIx_nat xs.length 0 1
  unfold cutV
  rw [e, HT.sIx_none]
  cases xs with
  | nil => rfl
  | cons x r =>
    have e1 : min 1 (x :: r).length = 1 := by simp only [List.length_cons]; omega
    rw [e1]
    simp
theorem pi_zip1 {i : Nat} {tg it : Expr} {tl th : TO} (h : PI X tg it (RZ.iZipA X.K (tCons (tVar i) (tCons (tSl (fun x lo hi H Q => rSlL X.K x lo hi H Q ∨ rSlA X.K x lo hi H Q) (tVar i) tl th) tNil))))
    (h1 : ∀ (σ : L2.St) (H : Hp) (Q : Option Int → Hp → Prop), Q (some 1) H → tl σ H Q) (h2 : ∀ (σ : L2.St) (H : Hp) (Q : Option Int → Hp → Prop), Q none H → th σ H Q) : PI X tg it (iZip1 i) := by
  refine ⟨fun pins s σ H R I hw => h.run pins s σ H R I ?_⟩
  obtain ⟨a, xs, e, hx, k⟩ := hw
  refine ⟨_, e, _, e, h1 σ H _ (h2 σ H _ ?_)⟩
  have gn : ∀ j : Nat, (xs.drop 1)[j]? = xs[j + 1]? := fun j => by rw [List.getElem?_drop, Nat.add_comm 1 j]
  rcases hx with hx | hx
  · refine .inl ⟨a, xs, rfl, .of hx, fun c nc => ?_⟩
    have sc : Same H (upd H c (.lst (cutV xs (some 1) none))) := fun b o z => by rw [upd_ne (ne_of_none z nc)]; exact z
    have hc : (upd H c (.lst (cutV xs (some 1) none))) c = some (.lst (xs.drop 1)) := by rw [upd_same, cutt_one]
    refine ⟨a, c, xs, xs.drop 1, rfl, .inl ⟨.of (sc _ _ hx), .of hc, k _ _ sc ⟨fun j H' sj hj => ?_, fun H' sj => ?_, fun j x H' H'' sj y => ?_⟩⟩⟩
    · exact ⟨xs, xs.drop 1, xs[j], xs[j + 1], .of (sj _ _ (sc _ _ hx)), .of (sj _ _ hc), List.getElem?_eq_getElem (by omega), by rw [gn]; exact List.getElem?_eq_getElem hj⟩
    · exact ⟨xs, xs.drop 1, .of (sj _ _ (sc _ _ hx)), .of (sj _ _ hc), .inr (by rw [List.length_drop]; exact Nat.le_refl _)⟩
    · obtain ⟨T, x1, x2, e1, e2, e3, f1, f2⟩ := y
      exact ⟨T, x1, x2, e1, e2, e3, f1 xs (.of (sj _ _ (sc _ _ hx))), fun _ => by rw [← gn]; exact f2 _ (.of (sj _ _ hc))⟩
  · refine .inr ⟨a, xs, rfl, .of hx, fun z => ?_, fun z c nc => ?_⟩
    · have lz : xs.length = 0 := by
        have z1 := z.1
        rw [show HT.sIx xs.length 0 (some 1) = min 1 xs.length from HT.sIx_nat xs.length 0 1] at z1
        omega
      refine ⟨a, a, xs, xs, rfl, .inr ⟨.of hx, .of hx, k _ _ (Same.refl _) ⟨fun j H' sj hj => by omega, fun H' sj => ⟨xs, xs, .of (sj _ _ hx), .of (sj _ _ hx), .inl (by omega)⟩, fun j x H' H'' sj y => ?_⟩⟩⟩
      obtain ⟨T, x1, x2, e1, e2, e3, f1, f2⟩ := y
      exact ⟨T, x1, x2, e1, e2, e3, f1 xs (.of (sj _ _ hx)), fun hj => by omega⟩
    · have sc : Same H (upd H c (.tup (cutV xs (some 1) none))) := fun b o z => by rw [upd_ne (ne_of_none z nc)]; exact z
      have hc : (upd H c (.tup (cutV xs (some 1) none))) c = some (.tup (xs.drop 1)) := by rw [upd_same, cutt_one]
      refine ⟨a, c, xs, xs.drop 1, rfl, .inr ⟨.of (sc _ _ hx), .of hc, k _ _ sc ⟨fun j H' sj hj => ?_, fun H' sj => ?_, fun j x H' H'' sj y => ?_⟩⟩⟩
      · exact ⟨xs, xs.drop 1, xs[j], xs[j + 1], .of (sj _ _ (sc _ _ hx)), .of (sj _ _ hc), List.getElem?_eq_getElem (by omega), by rw [gn]; exact List.getElem?_eq_getElem hj⟩
      · exact ⟨xs, xs.drop 1, .of (sj _ _ (sc _ _ hx)), .of (sj _ _ hc), .inr (by rw [List.length_drop]; exact Nat.le_refl _)⟩
      · obtain ⟨T, x1, x2, e1, e2, e3, f1, f2⟩ := y
        exact ⟨T, x1, x2, e1, e2, e3, f1 xs (.of (sj _ _ (sc _ _ hx))), fun _ => by rw [← gn]; exact f2 _ (.of (sj _ _ hc))⟩
end
/-! ### runs and states, dressed -/
def RunG (H : Hp) (v : V) (r : Run) : Prop := ∃ t, v = .ref t ∧ Sq2 H t [.str r.1, .int r.2]
def RunsG (H : Hp) (v : V) (rs : List Run) : Prop := ∃ a xs, v = .ref a ∧ Sq2 H a xs ∧ Paired (RunG H) xs rs
def StG (H : Hp) (v : V) : Option Run → Prop
  | none => v = .non
  | some r => RunG H v r
theorem RunG.same {H H' : Hp} {v : V} {r : Run} (s : Same H H') (h : RunG H v r) : RunG H' v r := by
  obtain ⟨t, e, h⟩ := h
  exact ⟨t, e, h.same s⟩
theorem RunsG.same {H H' : Hp} {v : V} {rs : List Run} (s : Same H H') (h : RunsG H v rs) : RunsG H' v rs := by
  obtain ⟨a, xs, e, hx, p⟩ := h
  exact ⟨a, xs, e, hx.same s, Paired.imp (fun _ _ => RunG.same s) p⟩
theorem StG.same {H H' : Hp} {v : V} {st : Option Run} (s : Same H H') (h : StG H v st) : StG H' v st := by
  cases st with
  | none => exact h
  | some r => exact RunG.same s h
theorem RunV.dress {H : Hp} {v : V} {r : Run} (h : RunV H v r) : RunG H v r := by
  obtain ⟨t, e, h⟩ := h
  exact ⟨t, e, .inr h⟩
theorem Runs.dress {H : Hp} {a : Addr} {rs : List Run} (h : Runs H a rs) : RunsG H (.ref a) rs := by
  obtain ⟨xs, hx, p⟩ := h
  exact ⟨a, xs, rfl, .inl hx, Paired.imp (fun _ _ => RunV.dress) p⟩
theorem StV.dress {H : Hp} {v : V} {st : Option Run} (h : StV H v st) : StG H v st := by
  cases st with
  | none => exact h
  | some r => exact RunV.dress h
theorem Sq2.but {H H' : Hp} {sp a : Addr} {xs : List V} (z : Spr H sp) (s : But sp H H') (h : Sq2 H a xs) (n : ∀ d e f, xs ≠ [.int d, .int e, .int f]) : Sq2 H' a xs := by
  obtain ⟨d, e, f, hs, _⟩ := z
  rcases h with h | h
  · exact .inl (s _ _ (ne_of h hs fun q => n d e f (HO.lst.inj q)) h)
  · exact .inr (s _ _ (ne_of h hs fun q => by cases q) h)
theorem RunG.but {H H' : Hp} {sp : Addr} {v : V} {r : Run} (z : Spr H sp) (s : But sp H H') (h : RunG H v r) : RunG H' v r := by
  obtain ⟨t, e, h⟩ := h
  exact ⟨t, e, h.but z s fun _ _ _ q => by cases q⟩
theorem RunsG.but {H H' : Hp} {sp : Addr} {v : V} {rs : List Run} (z : Spr H sp) (s : But sp H H') (h : RunsG H v rs) : RunsG H' v rs := by
  obtain ⟨a, xs, e, hx, p⟩ := h
  refine ⟨a, xs, e, hx.but z s fun d _ _ q => ?_, Paired.imp (fun _ _ => RunG.but z s) p⟩
  subst q
  cases p with
  | cons h _ =>
    obtain ⟨_, e, _⟩ := h
    cases e
theorem StG.but {H H' : Hp} {sp : Addr} {v : V} {st : Option Run} (z : Spr H sp) (s : But sp H H') (h : StG H v st) : StG H' v st := by
  cases st with
  | none => exact h
  | some r => exact RunG.but z s h
end UP

set_option Elab.async false
set_option linter.all false
set_option maxRecDepth 100000
set_option maxHeartbeats 4000000
namespace UP
open PySem PySem.Spec PyProof.Rows L2
def topS (i : Nat) : Stmt := PySem.Challenge.pw_unlikepairs_k53_sequences_and_states_as.main.body.getD i (.Pass ⟨0, 0, 0, 0⟩)
structure Tx (mg : Str → Option Value) : Prop where
  n_isinstance : mg "isinstance" = none
  n_int : mg "int" = none
  n_bool : mg "bool" = none
  n_str : mg "str" = none
  n_list : mg "list" = none
  n_tuple : mg "tuple" = none
  n_len : mg "len" = none
  n_all : mg "all" = none
  n_zip : mg "zip" = none
  n_sum : mg "sum" = none
  n_min : mg "min" = none
  n_max : mg "max" = none
  n_abs : mg "abs" = none
  n_range : mg "range" = none
  n_repr : mg "repr" = none
  n_enumerate : mg "enumerate" = none
  n_any : mg "any" = none
  n_dict : mg "dict" = none
  n_sorted : mg "sorted" = none
  n_set : mg "set" = none
  n_reversed : mg "reversed" = none
  n_ord : mg "ord" = none
  c_MAX_LETTERS : ∃ t, mg "MAX_LETTERS" = some (.int 8 t)
  c_MAX_RUNS : ∃ t, mg "MAX_RUNS" = some (.int 400 t)
  c_MAX_COUNT : ∃ t, mg "MAX_COUNT" = some (.int 1000000000000000000000000000000 t)
section
variable {P : Program} {w : World} {K : PySem.W.Frag} {mg : Str → Option Value} {base : Heap}
/-! is_whole: slots 0:value -/
abbrev s_is_whole : Stmt := topS 9
theorem sc_is_whole : FnScope ["value"] ["value"] (defScope s_is_whole) := ⟨rfl, rfl, rfl, by decide +kernel, rfl, by decide +kernel, by decide +kernel⟩
def sp_is_whole : Sp := fun vs H Q _ => ∃ n : Int, vs = [.int n] ∧ Q (.bl true) H
theorem ok_is_whole (D : Df K mg "is_whole" s_is_whole) (T : Tx mg) : Has P w K mg base 1 "is_whole" ["value"] sp_is_whole := by
  refine has_of D sc_is_whole (fun _ _ _ _ _ _ us hl => match us, hl with | [_], _ => rfl) (fun vs H Q E h => ?_) (fun f cdv A outer s H vs Q E hr h => ?_)
  · obtain ⟨n, rfl, _⟩ := h
    rfl
  · obtain ⟨n, rfl, q⟩ := h
    refine ⟨_, (pss_one (ps_ret (pe_and (pe_callB call_isi (by rfl) T.n_isinstance (by decide +kernel) (pa_cons (pv 0) (pa_cons (pe_bltn (v := .ty "int") (by rfl) T.n_int (by decide +kernel) rfl) pa_nil))) (pe_one (pe_not (pe_callB call_isi (by rfl) T.n_isinstance (by decide +kernel) (pa_cons (pv 0) (pa_cons (pe_bltn (v := .ty "bool") (by rfl) T.n_bool (by decide +kernel) rfl) pa_nil)))))))), ?_⟩
    exact ⟨_, rfl, _, _, _, _, true, rfl, .ty "int", .base (.int n), kit_ty (by decide +kernel), true, rfl, iteT ⟨_, rfl, _, _, _, _, false, rfl, .ty "bool", .base (.int n), kit_ty (by decide +kernel), false, rfl, q⟩⟩
/-! is_within: slots 0:value 1:low 2:high -/
abbrev s_is_within : Stmt := topS 10
theorem sc_is_within : FnScope ["value", "low", "high"] ["value", "low", "high"] (defScope s_is_within) := ⟨rfl, rfl, rfl, by decide +kernel, rfl, by decide +kernel, by decide +kernel⟩
def sp_is_within : Sp := fun vs H Q _ => ∃ n lo hi : Int, vs = [.int n, .int lo, .int hi] ∧ Q (.bl (decide (lo ≤ n ∧ n ≤ hi))) H
theorem ok_is_within (D : Df K mg "is_within" s_is_within) (G_is_whole : Has P w K mg base 1 "is_whole" ["value"] sp_is_whole) : Has P w K mg base 2 "is_within" ["value", "low", "high"] sp_is_within := by
  refine has_of D sc_is_within (fun _ _ _ _ _ _ us hl => match us, hl with | [_, _, _], _ => rfl) (fun vs H Q E h => ?_) (fun f cdv A outer s H vs Q E hr h => ?_)
  · obtain ⟨n, lo, hi, rfl, _⟩ := h
    rfl
  · obtain ⟨n, lo, hi, rfl, q⟩ := h
    refine ⟨_, (pss_one (ps_ret (pe_and (pe_callH G_is_whole (hr.mono (by omega)) (by rfl) (pa_cons (pv 0) pa_nil)) (pe_one (pe_chain op_le op_le (pv 1) (pv 0) (pv 2)))))), ?_⟩
    refine ⟨_, rfl, n, rfl, true, rfl, iteT ⟨_, rfl, _, rfl, _, _, rfl, rfl, _, rfl, ite2 (fun e => ?_) (fun e => ?_)⟩⟩
    · have e := of_decide_eq_true e
      refine ⟨_, rfl, _, _, rfl, rfl, ?_⟩
      show Q (.bl (decide (n ≤ hi))) H
      rw [show decide (n ≤ hi) = decide (lo ≤ n ∧ n ≤ hi) by simp [e]]
      exact q
    · have e : ¬ lo ≤ n := fun z => e (decide_eq_true z)
      show Q (.bl false) H
      rw [show false = decide (lo ≤ n ∧ n ≤ hi) by simp [e]]
      exact q
theorem kit_lst {K : PySem.W.Frag} : PySem.W.kitAny K (.type "list") [.type "list", .type "tuple"] = some true := kitAny_cons (b := true) (kit_ty (by decide +kernel)) (fun z => nomatch z) (fun _ => rfl)
theorem kit_tup {K : PySem.W.Frag} : PySem.W.kitAny K (.type "tuple") [.type "list", .type "tuple"] = some true := kitAny_cons (b := false) (kit_ty (by decide +kernel)) (fun _ => kitAny_cons (b := true) (kit_ty (by decide +kernel)) (fun z => nomatch z) (fun _ => rfl)) (fun z => nomatch z)
/-! is_listed: slots 0:value 1:most -/
abbrev s_is_listed : Stmt := topS 11
theorem sc_is_listed : FnScope ["value", "most"] ["value", "most"] (defScope s_is_listed) := ⟨rfl, rfl, rfl, by decide +kernel, rfl, by decide +kernel, by decide +kernel⟩
def sp_is_listed : Sp := fun vs H Q _ => ∃ (a : Addr) (xs : List V) (m : Int), vs = [.ref a, .int m] ∧ Sq2 H a xs ∧ ∀ H', Same H H' → Q (.bl (decide ((xs.length : Int) ≤ m))) H'
theorem ok_is_listed (D : Df K mg "is_listed" s_is_listed) (T : Tx mg) : Has P w K mg base 1 "is_listed" ["value", "most"] sp_is_listed := by
  refine has_of D sc_is_listed (fun _ _ _ _ _ _ us hl => match us, hl with | [_, _], _ => rfl) (fun vs H Q E h => ?_) (fun f cdv A outer s H vs Q E hr h => ?_)
  · obtain ⟨a, xs, m, rfl, _⟩ := h
    rfl
  · obtain ⟨a, xs, m, rfl, hx, q⟩ := h
    refine ⟨_, (pss_one (ps_ret (pe_and (pe_callB call_isiT (by rfl) T.n_isinstance (by decide +kernel) (pa_cons (pv 0) (pa_cons (pe_tup (pa_cons (pe_bltn (v := .ty "list") (by rfl) T.n_list (by decide +kernel) rfl) (pa_cons (pe_bltn (v := .ty "tuple") (by rfl) T.n_tuple (by decide +kernel) rfl) pa_nil))) pa_nil))) (pe_one (pe_cmpR op_le (pe_callB call_len_seq (by rfl) T.n_len (by decide +kernel) (pa_cons (pv 0) pa_nil)) (pv 1) (nomark _)))))), ?_⟩
    refine ⟨_, rfl, (by show 2 ≤ sizeLine; decide), fun t nt => ?_⟩
    rcases hx with hx | hx
    · refine ⟨_, t, _, _, _, true, rfl, upd_same, .cons (.ty "list") (.cons (.ty "tuple") .nil), .base (.lst (same_upd nt _ _ hx)), kit_lst, true, rfl, iteT ?_⟩
      exact ⟨_, rfl, _, _, rfl, .inl (.of (same_upd nt _ _ hx)), _, rfl, _, _, rfl, rfl, q _ (same_upd nt)⟩
    · refine ⟨_, t, _, _, _, true, rfl, upd_same, .cons (.ty "list") (.cons (.ty "tuple") .nil), .base (.tup (same_upd nt _ _ hx)), kit_tup, true, rfl, iteT ?_⟩
      exact ⟨_, rfl, _, _, rfl, .inr (.of (same_upd nt _ _ hx)), _, rfl, _, _, rfl, rfl, q _ (same_upd nt)⟩
/-! is_couple: slots 0:value -/
abbrev s_is_couple : Stmt := topS 12
theorem sc_is_couple : FnScope ["value"] ["value"] (defScope s_is_couple) := ⟨rfl, rfl, rfl, by decide +kernel, rfl, by decide +kernel, by decide +kernel⟩
def sp_is_couple : Sp := fun vs H Q _ => ∃ (a : Addr) (xs : List V), vs = [.ref a] ∧ Sq2 H a xs ∧ xs.length = 2 ∧ ∀ H', Same H H' → Q (.bl true) H'
theorem ok_is_couple (D : Df K mg "is_couple" s_is_couple) (T : Tx mg) : Has P w K mg base 1 "is_couple" ["value"] sp_is_couple := by
  refine has_of D sc_is_couple (fun _ _ _ _ _ _ us hl => match us, hl with | [_], _ => rfl) (fun vs H Q E h => ?_) (fun f cdv A outer s H vs Q E hr h => ?_)
  · obtain ⟨a, xs, rfl, _⟩ := h
    rfl
  · obtain ⟨a, xs, rfl, hx, hl, q⟩ := h
    refine ⟨_, (pss_one (ps_ret (pe_and (pe_callB call_isiT (by rfl) T.n_isinstance (by decide +kernel) (pa_cons (pv 0) (pa_cons (pe_tup (pa_cons (pe_bltn (v := .ty "list") (by rfl) T.n_list (by decide +kernel) rfl) (pa_cons (pe_bltn (v := .ty "tuple") (by rfl) T.n_tuple (by decide +kernel) rfl) pa_nil))) pa_nil))) (pe_one (pe_cmpR op_eq (pe_callB call_len_seq (by rfl) T.n_len (by decide +kernel) (pa_cons (pv 0) pa_nil)) pe_int (nomark _)))))), ?_⟩
    refine ⟨_, rfl, (by show 2 ≤ sizeLine; decide), fun t nt => ?_⟩
    rcases hx with hx | hx
    · refine ⟨_, t, _, _, _, true, rfl, upd_same, .cons (.ty "list") (.cons (.ty "tuple") .nil), .base (.lst (same_upd nt _ _ hx)), kit_lst, true, rfl, iteT ⟨_, rfl, _, _, rfl, .inl (.of (same_upd nt _ _ hx)), rfl, ?_⟩⟩
      rw [hl]
      exact q _ (same_upd nt)
    · refine ⟨_, t, _, _, _, true, rfl, upd_same, .cons (.ty "list") (.cons (.ty "tuple") .nil), .base (.tup (same_upd nt _ _ hx)), kit_tup, true, rfl, iteT ⟨_, rfl, _, _, rfl, .inr (.of (same_upd nt _ _ hx)), rfl, ?_⟩⟩
      rw [hl]
      exact q _ (same_upd nt)
end
end UP

set_option Elab.async false
set_option linter.all false
set_option maxRecDepth 100000
set_option maxHeartbeats 4000000
namespace UP
open PySem PySem.Spec PyProof.Rows L2
theorem iteP {b : Bool} {A B : Prop} (h : b = true) (x : A) : if b = true then A else B := by
  rw [if_pos h]
  exact x
theorem iteN {b : Bool} {A B : Prop} (h : b = false) (x : B) : if b = true then A else B := by
  rw [if_neg (by rw [h]; decide)]
  exact x
theorem yesT {σ : L2.St} {H : Hp} {A B : Hp → Prop} (h : A H) : tYes σ H (fun b H3 => if b = true then A H3 else B H3) := by
  show (if true = true then A H else B H)
  exact iteT h
theorem lc_gen {J : It} {n : Nat} {g : TG} {tt : TT} {te : TE} {vs : List Nat} {σ : L2.St} {H1 : Hp} {D : Addr} {Qd : Hp → Prop} (Pv : Nat → Hp → Prop) (h0 : Pv 0 (upd H1 D (.lst [])))
    (hg : ∀ i H, i < n → Pv i H → J.go i H) (hst : ∀ H, Pv n H → J.stop n H)
    (hs : ∀ i x H H', i < n → Pv i H → J.yld i H x H' → g x (wipe σ vs) H' fun σ2 H2 => wipe σ2 vs = wipe σ vs ∧ tt σ2 H2 fun b H3 =>
      if b = true then te σ2 H3 fun y H4 => ∃ acc, H4 D = some (.lst acc) ∧ acc.length < sizeLine ∧ Pv (i + 1) (upd H4 D (.lst (acc ++ [y]))) else Pv (i + 1) H3) (hd : ∀ H, Pv n H → Qd H) :
    ∃ W : Nat → Nat → Hp → Prop, (∃ m, W 0 m (upd H1 D (.lst []))) ∧ ∀ i m H, W i m H →
      (J.stop i H ∧ Qd H) ∨ (J.go i H ∧ ∃ Nx : Hp → Prop, (∀ H', Nx H' → ∃ m', m' < m ∧ W (i + 1) m' H') ∧ ∀ x H', J.yld i H x H' → g x (wipe σ vs) H' fun σ2 H2 => wipe σ2 vs = wipe σ vs ∧ tt σ2 H2 fun b H3 =>
        if b = true then te σ2 H3 fun y H4 => ∃ acc, H4 D = some (.lst acc) ∧ acc.length < sizeLine ∧ Nx (upd H4 D (.lst (acc ++ [y]))) else Nx H3) := by
  refine ⟨fun i m H => m = n - i ∧ i ≤ n ∧ Pv i H, ⟨n, by simp, Nat.zero_le _, h0⟩, ?_⟩
  rintro i m H ⟨rfl, hi, p⟩
  by_cases hlt : i < n
  · exact .inr ⟨hg i H hlt p, Pv (i + 1), fun H' p' => ⟨n - (i + 1), by omega, rfl, hlt, p'⟩, fun x H' y => hs i x H H' hlt p y⟩
  · have e : i = n := by omega
    subst e
    exact .inl ⟨hst H p, hd H p⟩
section
variable {X : Cx} {K : PySem.W.Frag}
theorem ix_tupK (h : X.K = K) : IxR X (rIxT K) := h ▸ ix_tup
theorem ix_listK (h : X.K = K) : IxR X (rIxL K) := h ▸ ix_list
theorem pg_tupK {es : List Expr} {k : Nat} {t : TGs} {n : Nat} {pos : Pos} (h : X.K = K) (hc : X.calm = true) (hp : PGs X es t)
    (hn : (assignEach es X.env).length = n := by rfl) (hst : (assignEach es X.env).findIdx? (fun z => z.1) = none := by rfl) : PG X (.Tuple es k pos) (gTup K n t) := by
  subst h
  exact pg_tup hc hp hn hst
theorem call_len_seqK (h : X.K = K) : CallR X (.builtin "len") (fun xs H Q => ∃ p ys, xs = [.ref p] ∧ (SqL K H p ys ∨ SqT K H p ys) ∧ Q (.int ys.length) H) := by
  subst h
  exact call_len_seq
end
theorem ix_seqK {X : Cx} {K : PySem.W.Frag} (h : X.K = K) : IxR X (rIx K) := h ▸ ix_seq
/-! ### lists that grow -/
theorem same_grow {H H4 : Hp} {D : Addr} {o : HO} (n : H D = none) (s : Same H H4) : Same H (upd H4 D o) := fun b x e => by
  rw [upd_ne (ne_of_none e n)]
  exact s b x e
theorem RunV.grow {H : Hp} {D : Addr} {acc acc' : List V} {v : V} {r : Run} (hD : H D = some (.lst acc)) (h : RunV H v r) : RunV (upd H D (.lst acc')) v r := by
  obtain ⟨t, e, h⟩ := h
  refine ⟨t, e, ?_⟩
  rw [upd_ne (ne_of h hD (by intro q; cases q))]
  exact h
theorem prs_grow {H : Hp} {D : Addr} {acc acc' : List V} {xs : List V} {rs : List Run} (hD : H D = some (.lst acc)) (h : Paired (RunV H) xs rs) : Paired (RunV (upd H D (.lst acc'))) xs rs := Paired.imp (fun _ _ => RunV.grow hD) h
theorem prs_same {H H' : Hp} {xs : List V} {rs : List Run} (s : Same H H') (h : Paired (RunV H) xs rs) : Paired (RunV H') xs rs := Paired.imp (fun _ _ => RunV.same s) h
theorem take_snoc {α : Type} {l : List α} {i : Nat} {x : α} (h : l[i]? = some x) : l.take (i + 1) = l.take i ++ [x] := by
  rw [List.take_add_one, h]
  rfl
theorem lc_wk {J : It} {H0 H1 : Hp} {xs : List V} {g : TG} {tt : TT} {te : TE} {vs : List Nat} {σ : L2.St} {D : Addr} {Qd : Hp → Prop} (wk : Wk J H0 xs) (Pv : Nat → Hp → Prop) (hsm : ∀ i H, Pv i H → Same H0 H) (h0 : Pv 0 (upd H1 D (.lst [])))
    (hs : ∀ i x H, xs[i]? = some x → Pv i H → g x (wipe σ vs) H fun σ2 H2 => wipe σ2 vs = wipe σ vs ∧ tt σ2 H2 fun b H3 =>
      if b = true then te σ2 H3 fun y H4 => ∃ acc, H4 D = some (.lst acc) ∧ acc.length < sizeLine ∧ Pv (i + 1) (upd H4 D (.lst (acc ++ [y]))) else Pv (i + 1) H3) (hd : ∀ H, Pv xs.length H → Qd H) :
    ∃ W : Nat → Nat → Hp → Prop, (∃ m, W 0 m (upd H1 D (.lst []))) ∧ ∀ i m H, W i m H →
      (J.stop i H ∧ Qd H) ∨ (J.go i H ∧ ∃ Nx : Hp → Prop, (∀ H', Nx H' → ∃ m', m' < m ∧ W (i + 1) m' H') ∧ ∀ x H', J.yld i H x H' → g x (wipe σ vs) H' fun σ2 H2 => wipe σ2 vs = wipe σ vs ∧ tt σ2 H2 fun b H3 =>
        if b = true then te σ2 H3 fun y H4 => ∃ acc, H4 D = some (.lst acc) ∧ acc.length < sizeLine ∧ Nx (upd H4 D (.lst (acc ++ [y]))) else Nx H3) := by
  refine lc_gen Pv h0 (fun i H hi p => wk.go i H (hsm i H p) hi) (fun H p => wk.stop H (hsm _ H p)) (fun i x H H' hi p y => ?_) hd
  obtain ⟨e, ex⟩ := wk.yld i x H H' (hsm i H p) y
  subst e
  exact hs i x _ ex p
theorem for_wk {J : It} {H0 H : Hp} {xs : List V} {g : TG} {tb : TS} {D : Ends} {σ : L2.St} (wk : Wk J H0 xs) (Pv : Nat → L2.St → Hp → Prop) (hsm : ∀ i σ H, Pv i σ H → Same H0 H) (h0 : Pv 0 σ H)
    (hs : ∀ i x σ H, xs[i]? = some x → Pv i σ H → g x σ H fun σ2 H2 => tb { D with nx := Pv (i + 1), ct := Pv (i + 1), bk := D.nx } σ2 H2) (hd : ∀ σ H, Pv xs.length σ H → D.nx σ H) :
    ∃ W : Nat → Nat → L2.St → Hp → Prop, (∃ m, W 0 m σ H) ∧ ∀ i m σ H, W i m σ H →
      (J.stop i H ∧ D.nx σ H) ∨ (J.go i H ∧ ∃ N : L2.St → Hp → Prop, (∀ σ' H', N σ' H' → ∃ m', m' < m ∧ W (i + 1) m' σ' H') ∧ ∀ x H', J.yld i H x H' → g x σ H' fun σ2 H2 => tb { D with nx := N, ct := N, bk := D.nx } σ2 H2) := by
  refine ⟨fun i m σ H => m = xs.length - i ∧ i ≤ xs.length ∧ Pv i σ H, ⟨xs.length, by omega, Nat.zero_le _, h0⟩, ?_⟩
  rintro i m σ H ⟨rfl, hi, p⟩
  by_cases hlt : i < xs.length
  · refine Or.inr ⟨wk.go i H (hsm i σ H p) hlt, Pv (i + 1), fun σ' H' p' => ⟨xs.length - (i + 1), by omega, rfl, hlt, p'⟩, fun x H' y => ?_⟩
    obtain ⟨e, ex⟩ := wk.yld i x H H' (hsm i σ H p) y
    subst e
    exact hs i x σ _ ex p
  · have e : i = xs.length := by omega
    subst e
    exact Or.inl ⟨wk.stop H (hsm _ σ H p), hd σ H p⟩
section
variable {P : Program} {w : World} {K : PySem.W.Frag} {mg : Str → Option Value} {base : Heap}
theorem lex1 {c d : Nat} : (!decide (([c] : List Nat) < [d])) = decide (d ≤ c) := by
  have e : (([c] : List Nat) < [d]) ↔ c < d := by
    rw [List.cons_lt_cons_iff]
    simp
  by_cases h : c < d
  · rw [decide_eq_true (e.mpr h), decide_eq_false (by omega)]
    rfl
  · rw [decide_eq_false (fun z => h (e.mp z)), decide_eq_true (by omega)]
    rfl
/-! is_kind: slots 0:value 1:letter -/
abbrev s_is_kind : Stmt := topS 13
theorem sc_is_kind : FnScope ["value", "letter"] ["value"] (defScope s_is_kind) := ⟨rfl, rfl, rfl, by decide +kernel, rfl, by decide +kernel, by decide +kernel⟩
def sp_is_kind : Sp := fun vs H Q _ => ∃ z : Str, vs = [.str z] ∧ KindOk z ∧ ∀ H', Same H H' → Q (.bl true) H'
theorem ok_is_kind (D : Df K mg "is_kind" s_is_kind) (T : Tx mg) : Has P w K mg base 1 "is_kind" ["value"] sp_is_kind := by
  refine has_of D sc_is_kind (fun _ _ _ _ _ _ us hl => match us, hl with | [_], _ => rfl) (fun vs H Q E h => ?_) (fun f cdv A outer s H vs Q E hr h => ?_)
  · obtain ⟨n, rfl, _⟩ := h
    rfl
  · obtain ⟨z, rfl, ⟨k1, k2, k3⟩, q⟩ := h
    refine ⟨_, (pss_cons (ps_if (PW.pt (pw_or (pt_not (pt_val (pe_callB call_isi (by rfl) T.n_isinstance (by decide +kernel) (pa_cons (pv 0) (pa_cons (pe_bltn (v := .ty "str") (by rfl) T.n_str (by decide +kernel) rfl) pa_nil))))) (pw_or1 (pt_not (pt_chain op_le op_le pe_int (pe_callB call_len_str (by rfl) T.n_len (by decide +kernel) (pa_cons (pv 0) pa_nil)) (pe_glI T.c_MAX_LETTERS (by rfl))))))) (pss_one (ps_ret pe_bl)) pss_nil)
    (pss_one (ps_ret (pe_callB (cr_all rfl) (by rfl) T.n_all (by decide +kernel) (pa_cons (pe_lc (own := [("letter", 1)]) rfl sc_is_kind.nd (pi_str (pv 0)) (blkOk_by (N := ["value", "letter"]) (sc := defScope s_is_kind) (by decide +kernel)) (fun _ _ _ _ _ => (pg_name (i := 1) sc_is_kind.nd rfl (by first | exact Or.inl rfl | exact Or.inr rfl))) (fun _ _ _ _ _ => pts_nil) (fun _ _ _ _ _ => (pe_chain op_le_str op_le_str pe_str (pv 1) pe_str))) pa_nil))))), ?_⟩
    refine ⟨_, rfl, _, _, _, _, true, rfl, .ty "str", .base (.str z), kit_ty (by decide +kernel), true, rfl, iteF ?_⟩
    refine ⟨_, rfl, z, rfl, smallE (by omega), _, _, rfl, rfl, _, rfl, iteP (decide_eq_true (by omega)) ⟨_, _, rfl, rfl, _, rfl, iteN ?_ ?_⟩⟩
    · show (!decide ((z.length : Int) ≤ 8)) = false
      rw [decide_eq_true (by omega)]
      rfl
    refine ⟨_, rfl, z, rfl, fun L nL => lc_gen (n := z.cps.size) (fun i H' => Same H H' ∧ H' L = some (.lst ((List.replicate i true).map V.bl))) ⟨same_upd nL, upd_same⟩ (fun i H' hi _ => hi) (fun H' _ => Nat.le_refl _) (fun i x H1 H2 hi p y => ?_) (fun H' p => ?_)⟩
    · obtain ⟨rfl, c, ec, rfl⟩ := y
      obtain ⟨sm, hL⟩ := p
      have hc : 97 ≤ c ∧ c ≤ 122 := k3 c (by
        have := Array.mem_of_getElem? ec
        simpa using this)
      have ea : ("a" : Str).cps.toList = [97] := by decide +kernel
      have ez : ("z" : Str).cps.toList = [122] := by decide +kernel
      refine ⟨rfl, yesT ⟨_, rfl, _, _, rfl, rfl, _, rfl, iteP ?_ ⟨_, _, rfl, rfl, _, hL, ?_, ?_, ?_⟩⟩⟩
      · show (!decide (([c] : List Nat) < ("a" : Str).cps.toList)) = true
        rw [ea, lex1]
        exact decide_eq_true hc.1
      · simp only [List.length_map, List.length_replicate]
        exact small (by have : z.cps.size = z.length := rfl; omega)
      · intro b o e
        have nb : b ≠ L := ne_of_none e nL
        rw [upd_ne nb]
        exact sm b o e
      · rw [upd_same]
        have e1 : (!decide ((("z" : Str).cps.toList) < ([c] : List Nat))) = true := by
          rw [ez, lex1]
          exact decide_eq_true hc.2
        show some (HO.lst ((List.replicate i true).map V.bl ++ [V.bl (!decide ((("z" : Str).cps.toList) < ([c] : List Nat)))])) = _
        rw [e1, List.replicate_succ', List.map_append]
        rfl
    · refine ⟨L, _, rfl, .of p.2, ?_⟩
      have e : ((List.replicate z.cps.size true).all id) = true := by simp
      rw [e]
      exact q H' p.1
def StOk (st : Option Run) : Prop := ∀ r, st = some r → KindOk r.1 ∧ 1 ≤ r.2
theorem at0 {α : Type} {x y : α} : atI [x, y] 0 = some x := rfl
theorem at1 {α : Type} {x y : α} : atI [x, y] 1 = some y := rfl
theorem ix0 {K : PySem.W.Frag} {H : Hp} {t : Addr} {x y : V} {Q : VK} (h : Sq2 H t [x, y]) (q : Q x H) : rIx K (.ref t) (.int 0) H Q := h.elim (fun z => .inl ⟨t, _, 0, _, rfl, rfl, .of z, at0, q⟩) (fun z => .inr (.inl ⟨t, _, 0, _, rfl, rfl, .of z, at0, q⟩))
theorem ix1 {K : PySem.W.Frag} {H : Hp} {t : Addr} {x y : V} {Q : VK} (h : Sq2 H t [x, y]) (q : Q y H) : rIx K (.ref t) (.int 1) H Q := h.elim (fun z => .inl ⟨t, _, 1, _, rfl, rfl, .of z, at1, q⟩) (fun z => .inr (.inl ⟨t, _, 1, _, rfl, rfl, .of z, at1, q⟩))
theorem all_rep (n : Nat) : ((List.replicate n true).all id) = true := by simp
/-! is_run: slots 0:value -/
abbrev s_is_run : Stmt := topS 14
theorem sc_is_run : FnScope ["value"] ["value"] (defScope s_is_run) := ⟨rfl, rfl, rfl, by decide +kernel, rfl, by decide +kernel, by decide +kernel⟩
def sp_is_run : Sp := fun vs H Q _ => ∃ (v : V) (r : Run), vs = [v] ∧ RunG H v r ∧ RunOk r ∧ ∀ H', Same H H' → Q (.bl true) H'
theorem ok_is_run (D : Df K mg "is_run" s_is_run) (T : Tx mg) (G_is_couple : Has P w K mg base 1 "is_couple" ["value"] sp_is_couple) (G_is_kind : Has P w K mg base 1 "is_kind" ["value"] sp_is_kind) (G_is_within : Has P w K mg base 2 "is_within" ["value", "low", "high"] sp_is_within) :
    Has P w K mg base 3 "is_run" ["value"] sp_is_run := by
  refine has_of D sc_is_run (fun _ _ _ _ _ _ us hl => match us, hl with | [_], _ => rfl) (fun vs H Q E h => ?_) (fun f cdv A outer s H vs Q E hr h => ?_)
  · obtain ⟨v, r, rfl, _⟩ := h
    rfl
  · obtain ⟨v, r, rfl, ⟨t, rfl, ht⟩, ⟨k, c1, c2⟩, q⟩ := h
    refine ⟨_, (pss_one (ps_ret (pe_and (pe_callH G_is_couple (hr.mono (by omega)) (by rfl) (pa_cons (pv 0) pa_nil)) (pe_and (pe_callH G_is_kind (hr.mono (by omega)) (by rfl) (pa_cons (pe_ix ix_seq (pv 0) pe_int (fun _ _ => rfl)) pa_nil)) (pe_one (pe_callH G_is_within (hr.mono (by omega)) (by rfl) (pa_cons (pe_ix ix_seq (pv 0) pe_int (fun _ _ => rfl)) (pa_cons pe_int (pa_cons (pe_glI T.c_MAX_COUNT (by rfl)) pa_nil))))))))), ?_⟩
    refine ⟨_, rfl, t, _, rfl, ht, rfl, fun H1 s1 => ⟨true, rfl, iteT ?_⟩⟩
    refine ⟨_, rfl, ix0 (ht.same s1) ⟨r.1, rfl, k, fun H2 s2 => ⟨true, rfl, iteT ?_⟩⟩⟩
    refine ⟨_, rfl, ix1 ((ht.same s1).same s2) ⟨r.2, 1, _, rfl, ?_⟩⟩
    rw [decide_eq_true ⟨c1, c2⟩]
    exact q _ (s1.trans s2)
/-! is_state: slots 0:value -/
abbrev s_is_state : Stmt := topS 16
theorem sc_is_state : FnScope ["value"] ["value"] (defScope s_is_state) := ⟨rfl, rfl, rfl, by decide +kernel, rfl, by decide +kernel, by decide +kernel⟩
def sp_is_state : Sp := fun vs H Q _ => ∃ (v : V) (st : Option Run), vs = [v] ∧ StG H v st ∧ StOk st ∧ ∀ H', Same H H' → Q (.bl true) H'
theorem ok_is_state (D : Df K mg "is_state" s_is_state) (T : Tx mg) (G_is_couple : Has P w K mg base 1 "is_couple" ["value"] sp_is_couple) (G_is_kind : Has P w K mg base 1 "is_kind" ["value"] sp_is_kind) (G_is_whole : Has P w K mg base 1 "is_whole" ["value"] sp_is_whole) :
    Has P w K mg base 2 "is_state" ["value"] sp_is_state := by
  refine has_of D sc_is_state (fun _ _ _ _ _ _ us hl => match us, hl with | [_], _ => rfl) (fun vs H Q E h => ?_) (fun f cdv A outer s H vs Q E hr h => ?_)
  · obtain ⟨v, r, rfl, _⟩ := h
    rfl
  · obtain ⟨v, st, rfl, hv, ok, q⟩ := h
    refine ⟨_, (pss_cons (ps_if (pt_cmpR op_isN (pv 0) pe_non (nomark _)) (pss_one (ps_ret pe_bl)) pss_nil)
    (pss_one (ps_ret (pe_and (pe_callH G_is_couple (hr.mono (by omega)) (by rfl) (pa_cons (pv 0) pa_nil)) (pe_and (pe_callH G_is_kind (hr.mono (by omega)) (by rfl) (pa_cons (pe_ix ix_seq (pv 0) pe_int (fun _ _ => rfl)) pa_nil)) (pe_and (pe_callH G_is_whole (hr.mono (by omega)) (by rfl) (pa_cons (pe_ix ix_seq (pv 0) pe_int (fun _ _ => rfl)) pa_nil)) (pe_one (pe_cmpR op_ge (pe_ix ix_seq (pv 0) pe_int (fun _ _ => rfl)) pe_int (nomark _))))))))), ?_⟩
    cases st with
    | none =>
      cases hv
      exact ⟨_, rfl, rfl, _, rfl, iteP rfl (q H (Same.refl H))⟩
    | some r =>
      obtain ⟨t, rfl, ht⟩ := hv
      obtain ⟨k, c1⟩ := ok r rfl
      refine ⟨_, rfl, rfl, _, rfl, iteN rfl ?_⟩
      refine ⟨_, rfl, t, _, rfl, ht, rfl, fun H1 s1 => ⟨true, rfl, iteT ?_⟩⟩
      refine ⟨_, rfl, ix0 (ht.same s1) ⟨r.1, rfl, k, fun H2 s2 => ⟨true, rfl, iteT ?_⟩⟩⟩
      refine ⟨_, rfl, ix1 ((ht.same s1).same s2) ⟨r.2, rfl, true, rfl, iteT ?_⟩⟩
      refine ⟨_, rfl, ix1 ((ht.same s1).same s2) ⟨_, _, rfl, rfl, ?_⟩⟩
      show Q (.bl (decide (1 ≤ r.2))) H2
      rw [decide_eq_true c1]
      exact q _ (s1.trans s2)
/-! is_sequence: slots 0:value 1:run 2:following -/
abbrev s_is_sequence : Stmt := topS 15
theorem sc_is_sequence : FnScope ["value", "run", "following"] ["value"] (defScope s_is_sequence) := ⟨rfl, rfl, rfl, by decide +kernel, rfl, by decide +kernel, by decide +kernel⟩
def sp_is_sequence : Sp := fun vs H Q _ => ∃ (v : V) (rs : List Run), vs = [v] ∧ RunsG H v rs ∧ SeqOk rs ∧ ∀ H', Same H H' → Q (.bl true) H'
theorem ok_is_sequence (D : Df K mg "is_sequence" s_is_sequence) (T : Tx mg) (G_is_listed : Has P w K mg base 1 "is_listed" ["value", "most"] sp_is_listed) (G_is_run : Has P w K mg base 3 "is_run" ["value"] sp_is_run) :
    Has P w K mg base 4 "is_sequence" ["value"] sp_is_sequence := by
  refine has_of D sc_is_sequence (fun _ _ _ _ _ _ us hl => match us, hl with | [_], _ => rfl) (fun vs H Q E h => ?_) (fun f cdv A outer s H vs Q E hr h => ?_)
  · obtain ⟨v, r, rfl, _⟩ := h
    rfl
  · obtain ⟨v, rs, rfl, ⟨a, xs, rfl, hx, hp⟩, ⟨l4, rok, alt⟩, q⟩ := h
    have lx : xs.length = rs.length := Paired.len hp
    refine ⟨_, (pss_cons (ps_if (PW.pt (pw_or (pt_not (pt_val (pe_callH G_is_listed (hr.mono (by omega)) (by rfl) (pa_cons (pv 0) (pa_cons (pe_glI T.c_MAX_RUNS (by rfl)) pa_nil))))) (pw_or1 (pt_not (pt_val (pe_callB (cr_all rfl) (by rfl) T.n_all (by decide +kernel) (pa_cons (pe_lc (own := [("run", 1)]) rfl sc_is_sequence.nd (pi_seqV 0) (blkOk_by (N := ["value", "run", "following"]) (sc := defScope s_is_sequence) (by decide +kernel)) (fun _ _ _ _ _ => (pg_name (i := 1) sc_is_sequence.nd rfl (by first | exact Or.inl rfl | exact Or.inr rfl))) (fun _ _ _ _ _ => pts_nil) (fun _ _ _ _ _ => (pe_callH G_is_run (hr.mono (by omega)) (by rfl) (pa_cons (pv 1) pa_nil)))) pa_nil))))))) (pss_one (ps_ret pe_bl)) pss_nil)
    (pss_one (ps_ret (pe_callB (cr_all rfl) (by rfl) T.n_all (by decide +kernel) (pa_cons (pe_lc (own := [("run", 1), ("following", 2)]) rfl sc_is_sequence.nd (pi_zip1 (i := 0) (RZ.pi_zipA (by rfl) T.n_zip (pa_cons (pv 0) (pa_cons (pe_slice (SlR.or sl_list sl_tupA) (pv 0) (po_some pe_int) po_none) pa_nil))) (fun _ _ _ q => ⟨1, rfl, q⟩) (fun _ _ _ q => q)) (blkOk_by (N := ["value", "run", "following"]) (sc := defScope s_is_sequence) (by decide +kernel)) (fun _ _ _ _ _ => (pg_tupK (K := K) (n := 2) rfl rfl (pgs_cons (pg_name (i := 1) sc_is_sequence.nd rfl (by first | exact Or.inl rfl | exact Or.inr rfl)) (pgs_cons (pg_name (i := 2) sc_is_sequence.nd rfl (by first | exact Or.inl rfl | exact Or.inr rfl)) pgs_nil)))) (fun _ _ _ _ _ => pts_nil) (fun _ _ _ _ _ => (pe_cmpR op_ne (pe_ix (ix_seqK (K := K) rfl) (pv 1) pe_int (fun _ _ => rfl)) (pe_ix (ix_seqK (K := K) rfl) (pv 2) pe_int (fun _ _ => rfl)) (nomark _)))) pa_nil))))), ?_⟩
    refine ⟨_, rfl, a, xs, 400, rfl, hx, fun H1 s1 => ⟨_, rfl, iteN ?_ ?_⟩⟩
    · show (!decide ((xs.length : Int) ≤ 400)) = false
      rw [decide_eq_true (by omega)]
      rfl
    refine ⟨a, xs, rfl, hx.same s1, fun J wk L nL => lc_wk wk (fun i H' => Same H1 H' ∧ H' L = some (.lst ((List.replicate i true).map V.bl))) (fun _ _ p => p.1) ⟨same_upd nL, upd_same⟩ (fun i x H2 ex p => ?_) (fun H2 p => ?_)⟩
    · obtain ⟨sm, hL⟩ := p
      obtain ⟨r, er, hr1⟩ := Paired.at hp ex
      have hi : i < xs.length := (List.getElem?_eq_some_iff.mp ex).1
      refine ⟨rfl, yesT ⟨_, rfl, x, r, rfl, RunG.same (s1.trans sm) hr1, rok r (List.mem_of_getElem? er), fun H3 s3 => ⟨_, s3 _ _ hL, ?_, same_grow nL (sm.trans s3), ?_⟩⟩⟩
      · simp only [List.length_map, List.length_replicate]
        exact small (by omega)
      · rw [upd_same, List.replicate_succ', List.map_append]
        rfl
    · refine ⟨L, _, rfl, .of p.2, _, rfl, iteN ?_ ?_⟩
      · rw [all_rep]
        rfl
      have s2 : Same H H2 := s1.trans p.1
      refine ⟨a, xs, rfl, hx.same s2, fun J Hc sc wk M nM => ?_⟩
      have sA : Same H Hc := s2.trans sc
      refine lc_gen (n := xs.length - 1) (fun i H' => Same Hc H' ∧ H' M = some (.lst ((List.replicate i true).map V.bl))) ⟨same_upd nM, upd_same⟩ (fun i H' hi p => wk.go i H' p.1 (by omega)) (fun H' p => wk.stop H' p.1) (fun i x H3 H4 hi p y => ?_) (fun H' p => ?_)
      · obtain ⟨T', x1, x2, rfl, nT, rfl, g1, g2⟩ := wk.yld i x H3 H4 p.1 y
        obtain ⟨sm, hM⟩ := p
        have g2 := g2 (by omega)
        have sB : Same H H3 := sA.trans sm
        obtain ⟨r1, e1, v1⟩ := Paired.at hp g1
        obtain ⟨r2, e2, v2⟩ := Paired.at hp g2
        obtain ⟨t1, rfl, w1⟩ := RunG.same (sB.trans (same_upd (o := .tup [x1, x2]) nT)) v1
        obtain ⟨t2, rfl, w2⟩ := RunG.same (sB.trans (same_upd (o := .tup [_, x2]) nT)) v2
        refine ⟨T', _, rfl, .of upd_same, rfl, _, _, rfl, _, _, rfl, rfl, rfl, yesT ?_⟩
        refine ⟨_, rfl, ix0 w1 ⟨_, rfl, ix0 w2 ⟨rfl, _, same_upd nT _ _ hM, ?_, same_grow nM (sm.trans (same_upd nT)), ?_⟩⟩⟩
        · simp only [List.length_map, List.length_replicate]
          exact small (by omega)
        · rw [upd_same, List.replicate_succ', List.map_append]
          have ne : (!decide (V.str r1.1 = V.str r2.1)) = true := by
            rw [decide_eq_false (fun z => alt i r1 r2 e1 e2 (V.str.inj z))]
            rfl
          rw [ne]
          rfl
      · refine ⟨M, _, rfl, .of p.2, ?_⟩
        rw [all_rep]
        exact q _ (sA.trans p.1)
/-! checked_runs: slots 0:sequence 1:kind 2:count -/
abbrev s_checked_runs : Stmt := topS 17
theorem sc_checked_runs : FnScope ["sequence", "kind", "count"] ["sequence"] (defScope s_checked_runs) := ⟨rfl, rfl, rfl, by decide +kernel, rfl, by decide +kernel, by decide +kernel⟩
def sp_checked_runs : Sp := fun vs H Q _ => ∃ (v : V) (rs : List Run), vs = [v] ∧ RunsG H v rs ∧ SeqOk rs ∧ ∀ H' p, Same H H' → H p = none → Runs H' p rs → Q (.ref p) H'
theorem ok_checked_runs (D : Df K mg "checked_runs" s_checked_runs) (T : Tx mg) (G_is_sequence : Has P w K mg base 4 "is_sequence" ["value"] sp_is_sequence) :
    Has P w K mg base 5 "checked_runs" ["sequence"] sp_checked_runs := by
  refine has_of D sc_checked_runs (fun _ _ _ _ _ _ us hl => match us, hl with | [_], _ => rfl) (fun vs H Q E h => ?_) (fun f cdv A outer s H vs Q E hr h => ?_)
  · obtain ⟨v, r, rfl, _⟩ := h
    rfl
  · obtain ⟨v, rs, rfl, hR, ok, q⟩ := h
    refine ⟨_, (pss_cons (ps_if (pt_not (pt_val (pe_callH G_is_sequence (hr.mono (by omega)) (by rfl) (pa_cons (pv 0) pa_nil)))) (pss_one ps_never) pss_nil)
    (pss_one (ps_ret (pe_lc (own := [("kind", 1), ("count", 2)]) rfl sc_checked_runs.nd (pi_seqV 0) (blkOk_by (N := ["sequence", "kind", "count"]) (sc := defScope s_checked_runs) (by decide +kernel)) (fun _ _ _ _ _ => (pg_any (n := 2) rfl (pgs_cons (pg_name (i := 1) sc_checked_runs.nd rfl (by first | exact Or.inl rfl | exact Or.inr rfl)) (pgs_cons (pg_name (i := 2) sc_checked_runs.nd rfl (by first | exact Or.inl rfl | exact Or.inr rfl)) pgs_nil)))) (fun _ _ _ _ _ => pts_nil) (fun _ _ _ _ _ => (pe_tup (pa_cons (pv 1) (pa_cons (pv 2) pa_nil)))))))), ?_⟩
    refine ⟨_, rfl, v, rs, rfl, hR, ok, fun H1 s1 => ⟨true, rfl, iteF ?_⟩⟩
    obtain ⟨a, xs, rfl, hx, hp⟩ := hR
    have lx : xs.length = rs.length := Paired.len hp
    refine ⟨a, xs, rfl, hx.same s1, fun J wk L nL => lc_wk wk (fun i H' => Same H1 H' ∧ ∃ ys, H' L = some (.lst ys) ∧ Paired (RunV H') ys (rs.take i)) (fun _ _ p => p.1) ⟨same_upd nL, [], upd_same, .nil⟩ (fun i x H2 ex p => ?_) (fun H2 p => ?_)⟩
    · obtain ⟨sm, ys, hL, hy⟩ := p
      obtain ⟨r, er, hr1⟩ := Paired.at hp ex
      have hi : i < xs.length := (List.getElem?_eq_some_iff.mp ex).1
      obtain ⟨t, rfl, ht⟩ := RunG.same (s1.trans sm) hr1
      refine ⟨t, _, rfl, ht, rfl, _, _, rfl, _, _, rfl, rfl, rfl, yesT ⟨_, rfl, _, rfl, (by show 2 ≤ sizeLine; decide), fun n nn => ⟨_, same_upd nn _ _ hL, ?_, same_grow nL (sm.trans (same_upd nn)), _, upd_same, ?_⟩⟩⟩
      · have := Paired.len hy
        rw [List.length_take] at this
        exact small (by have := ok.1; omega)
      · rw [take_snoc er]
        refine Paired.app (prs_grow (same_upd nn _ _ hL) (prs_same (same_upd nn) hy)) (.cons ?_ .nil)
        exact RunV.grow (same_upd nn _ _ hL) ⟨n, rfl, upd_same⟩
    · obtain ⟨sm, ys, hL, hy⟩ := p
      rw [lx, List.take_length] at hy
      exact q H2 L (s1.trans sm) (s1.free nL) ⟨ys, hL, hy⟩
/-! checked_state: slots 0:state -/
abbrev s_checked_state : Stmt := topS 18
theorem sc_checked_state : FnScope ["state"] ["state"] (defScope s_checked_state) := ⟨rfl, rfl, rfl, by decide +kernel, rfl, by decide +kernel, by decide +kernel⟩
def sp_checked_state : Sp := fun vs H Q _ => ∃ (v : V) (st : Option Run), vs = [v] ∧ StG H v st ∧ StOk st ∧ ∀ H' v', Same H H' → StV H' v' st → Q v' H'
theorem ok_checked_state (D : Df K mg "checked_state" s_checked_state) (T : Tx mg) (G_is_state : Has P w K mg base 2 "is_state" ["value"] sp_is_state) :
    Has P w K mg base 3 "checked_state" ["state"] sp_checked_state := by
  refine has_of D sc_checked_state (fun _ _ _ _ _ _ us hl => match us, hl with | [_], _ => rfl) (fun vs H Q E h => ?_) (fun f cdv A outer s H vs Q E hr h => ?_)
  · obtain ⟨v, r, rfl, _⟩ := h
    rfl
  · obtain ⟨v, st, rfl, hv, ok, q⟩ := h
    refine ⟨_, (pss_cons (ps_if (pt_not (pt_val (pe_callH G_is_state (hr.mono (by omega)) (by rfl) (pa_cons (pv 0) pa_nil)))) (pss_one ps_never) pss_nil)
    (pss_one (ps_ret (pe_ifExp (pt_cmpR op_isN (pv 0) pe_non (nomark _)) pe_non (pe_callTy call_tuple_of (by rfl) T.n_tuple (by decide +kernel) (pa_cons (pv 0) pa_nil)))))), ?_⟩
    refine ⟨_, rfl, v, st, rfl, hv, ok, fun H1 s1 => ⟨true, rfl, iteF ?_⟩⟩
    cases st with
    | none =>
      cases hv
      exact ⟨_, rfl, rfl, _, rfl, iteP rfl (q H1 _ s1 rfl)⟩
    | some r =>
      obtain ⟨t, rfl, ht⟩ := hv
      refine ⟨_, rfl, rfl, _, rfl, iteN rfl ⟨_, rfl, t, [.str r.1, .int r.2], rfl, ?_⟩⟩
      rcases ht.same s1 with z | z
      · exact .inl ⟨.of z, fun l nl => q _ _ (s1.trans (same_upd nl)) ⟨l, rfl, upd_same⟩⟩
      · exact .inr ⟨.of z, q H1 _ s1 ⟨t, rfl, z⟩⟩
end
end UP

set_option Elab.async false
set_option linter.all false
set_option maxRecDepth 100000
set_option maxHeartbeats 4000000
namespace UP
open PySem PySem.Spec PyProof.Rows L2
section
variable {P : Program} {w : World} {K : PySem.W.Frag} {mg : Str → Option Value} {base : Heap}
def lenR (rs : List Run) : Int := (rs.map (·.2)).sum
end
end UP

set_option Elab.async false
set_option linter.all false
set_option maxRecDepth 100000
set_option maxHeartbeats 4000000
namespace UP
open PySem PySem.Spec PyProof.Rows L2
/-! ### the mirror of cut -/
theorem lenR_nil : lenR [] = 0 := rfl
theorem lenR_cons (r : Run) (l : List Run) : lenR (r :: l) = r.2 + lenR l := by
  unfold lenR
  rw [List.map_cons, List.sum_cons]
theorem lenR_app (l m : List Run) : lenR (l ++ m) = lenR l + lenR m := by
  induction l with
  | nil => rw [List.nil_append, lenR_nil]; omega
  | cons r t ih => rw [List.cons_append, lenR_cons, lenR_cons, ih]; omega
theorem lenR_snoc (l : List Run) (r : Run) : lenR (l ++ [r]) = lenR l + r.2 := by
  rw [lenR_app, lenR_cons, lenR_nil]
  omega
def sizeR (b s e c : Int) : Int := (if b + c < e then b + c else e) - (if b > s then b else s)
def pieceR (b s e : Int) (r : Run) : List Run := if 0 < sizeR b s e r.2 then [(r.1, sizeR b s e r.2)] else []
def cutR (s e : Int) : Int → List Run → List Run
  | _, [] => []
  | b, r :: t => pieceR b s e r ++ cutR s e (b + r.2) t
theorem cutR_snoc (s e : Int) : ∀ (l : List Run) (b : Int) (r : Run), cutR s e b (l ++ [r]) = cutR s e b l ++ pieceR (b + lenR l) s e r
  | [], b, r => by
    show pieceR b s e r ++ [] = [] ++ pieceR (b + lenR []) s e r
    rw [lenR_nil, Int.add_zero, List.append_nil, List.nil_append]
  | x :: t, b, r => by
    show pieceR b s e x ++ cutR s e (b + x.2) (t ++ [r]) = (pieceR b s e x ++ cutR s e (b + x.2) t) ++ pieceR (b + lenR (x :: t)) s e r
    rw [cutR_snoc s e t, lenR_cons, List.append_assoc, Int.add_assoc]
theorem pieceR_len (b s e : Int) (r : Run) : (pieceR b s e r).length ≤ 1 := by
  unfold pieceR
  split <;> simp
theorem cutR_len (s e : Int) : ∀ (l : List Run) (b : Int), (cutR s e b l).length ≤ l.length
  | [], _ => Nat.le_refl _
  | r :: t, b => by
    show (pieceR b s e r ++ cutR s e (b + r.2) t).length ≤ (r :: t).length
    have h1 := pieceR_len b s e r
    have h2 := cutR_len s e t (b + r.2)
    rw [List.length_append, List.length_cons]
    omega
section
variable {P : Program} {w : World} {K : PySem.W.Frag} {mg : Str → Option Value} {base : Heap}
end
end UP

set_option Elab.async false
set_option linter.all false
set_option maxRecDepth 100000
set_option maxHeartbeats 4000000
namespace UP
open PySem PySem.Spec PyProof.Rows L2
/-! ### the mirror of the states -/
def numR : Option Run → Int
  | none => 0
  | some r => r.2
def leavR : Option Run → Str → Int → Int
  | none, _, _ => 0
  | some r, k, c => if r.1 = k then 0 else if c < r.2 then c else r.2
def stepR : Option Run → Str → Int → Option Run
  | some r, k, c => if r.1 = k then some (k, r.2 + c) else if 0 < r.2 - c then some (r.1, r.2 - c) else if r.2 - c = 0 then none else some (k, -(r.2 - c))
  | none, k, c => some (k, c)
def withR (k : Str) (n : Int) : Option Run := if n = 0 then none else some (k, n)
def stR (rs : List Run) (st : Option Run) : Option Run := rs.foldl (fun s r => stepR s r.1 r.2) st
theorem stR_snoc (l : List Run) (r : Run) (st : Option Run) : stR (l ++ [r]) st = stepR (stR l st) r.1 r.2 := by
  unfold stR
  rw [List.foldl_append]
  rfl
section
variable {P : Program} {w : World} {K : PySem.W.Frag} {mg : Str → Option Value} {base : Heap}
end
end UP

set_option Elab.async false
set_option linter.all false
set_option maxRecDepth 100000
set_option maxHeartbeats 4000000
namespace UP
open PySem PySem.Spec PyProof.Rows L2
def DfD (K : PySem.W.Frag) (mg : Str → Option Value) (x : Str) (st : Stmt) (dvs : List V) : Prop := ∃ f fd, mg x = some (.ref f) ∧ FunD K x x (defArgs st) (defBody st) (defScope st) dvs [] f fd
/-- a def whose last parameter, kw, has the default None -/
def HasD (P : Program) (w : World) (K : PySem.W.Frag) (mg : Str → Option Value) (base : Heap) (k : Nat) (x : Str) (ps : List Str) (n : Nat) (kw : Str) (sp : Sp) : Prop :=
  ∃ f fd, mg x = some (.ref f) ∧ PySem.W.keepIn K (.ref f) = true ∧ Binds K fd ps [] ∧ (∃ ds, Vals [.non] ds ∧ Binds K fd ps ds) ∧ KBn K fd ps n [kw] (fun us ws => us ++ ws) (fun vs zs => vs ++ zs) ∧ FnOk P w K mg base CX0 k f fd ps sp
section
variable {P : Program} {w : World} {K : PySem.W.Frag} {mg : Str → Option Value} {base : Heap}
theorem HasD.has {k n : Nat} {x kw : Str} {ps : List Str} {sp : Sp} (h : HasD P w K mg base k x ps n kw sp) : Has P w K mg base k x ps sp := by
  obtain ⟨f, fd, g, kp, b, _, _, F⟩ := h
  exact ⟨f, fd, g, kp, b, F⟩
theorem has_ofD {x kw : Str} {st : Stmt} {ps N : List Str} {k n : Nat} {sp : Sp} (D : DfD K mg x st [.non]) (S : FnScope N ps (defScope st)) (hpn : ps.length = n + 1)
    (hb : ∀ (T : Addr) (kV doc pm : Value) (an : Option Addr) (cdv ct : Value) (us its : List Value), us.length = n + 1 → its.length = 1 →
      ∃ k, bindArgs (PySem.W.fnOf x x (defArgs st) (defBody st) (defScope st) (.ref T) kV doc pm an cdv ct) ⟨us, []⟩ = seqItems? (.ref T) >>= k ∧ k (some its.toArray) = pure (ps.zip us))
    (hb1 : ∀ (T : Addr) (kV doc pm : Value) (an : Option Addr) (cdv ct : Value) (us its : List Value), us.length = n → its.length = 1 →
      ∃ k, bindArgs (PySem.W.fnOf x x (defArgs st) (defBody st) (defScope st) (.ref T) kV doc pm an cdv ct) ⟨us, []⟩ = seqItems? (.ref T) >>= k ∧ k (some its.toArray) = pure (ps.zip (us ++ its)))
    (hb2 : ∀ (T : Addr) (kV doc pm : Value) (an : Option Addr) (cdv ct : Value) (us its : List Value) (v : Value), us.length = n → its.length = 1 →
      ∃ k, bindArgs (PySem.W.fnOf x x (defArgs st) (defBody st) (defScope st) (.ref T) kV doc pm an cdv ct) ⟨us, [(kw, v)]⟩ = seqItems? (.ref T) >>= k ∧ k (some its.toArray) = pure (ps.zip (us ++ [v])))
    (len : ∀ vs H Q E, sp vs H Q E → vs.length = ps.length)
    (body : ∀ (f : Addr) (cdv : Value) (A : Around) (outer : List Env) (s : Shared) (H : Hp) (vs : List V) (Q : VK) (E : XK), Room k (A.deeper (envOfC x (defScope st) s.heap.objs.size f cdv)) → sp vs H Q E →
      ∃ t, PSs (cxOf CX0 P w K mg base N x (defScope st) f cdv A outer s H E).nox (defBody st) t ∧ t { nx := fun _ H' => Q .non H', rt := Q } (start N vs) H) :
    HasD P w K mg base (k + 1) x ps n kw sp := by
  obtain ⟨f, fd, g, F⟩ := D
  have B0 : Binds K fd ps [] := by
    obtain ⟨ds, v, b⟩ := F.binds1 (n + 1) 1 (ps := ps) (by intro z; cases z) (by rw [hpn]; rfl) fun T kV doc pm an cdv ct us its h1 h2 => by
      obtain ⟨k, e1, e2⟩ := hb T kV doc pm an cdv ct us its h1 h2
      refine ⟨k, e1, ?_⟩
      have h3 : its.length ≤ 1 := Nat.le_of_eq h2
      rw [e2, List.drop_of_length_le h3, List.append_nil]
    cases v
    exact b
  have B1 : ∃ ds, Vals [V.non] ds ∧ Binds K fd ps ds := by
    obtain ⟨ds, v, b⟩ := F.binds1 n 0 (ps := ps) (by intro z; cases z) (by rw [hpn]; rfl) fun T kV doc pm an cdv ct us its h1 h2 => by
      obtain ⟨k, e1, e2⟩ := hb1 T kV doc pm an cdv ct us its h1 h2
      exact ⟨k, e1, by rw [e2, List.drop_zero]⟩
    exact ⟨ds, v, b⟩
  have B2 : KBn K fd ps n [kw] (fun us ws => us ++ ws) (fun vs zs => vs ++ zs) := by
    refine ⟨fun s us ws X l1 l2 => ?_, fun r1 r2 => r1.append r2⟩
    obtain ⟨oc, od, dV, kV, doc, pm, an, cdv, ct, osl, rfl, lk, hcd, hD, _⟩ := F.ex
    rcases hD with ⟨z, _⟩ | ⟨_, T, o, its, m, rfl, lT, oT, rT⟩
    · cases z
    · match ws, l2 with
      | [v], _ =>
        obtain ⟨k, e1, e2⟩ := hb2 T kV doc pm an cdv ct us its v l1 rT.length.symm
        refine BindsTo.of_looks fun M => ?_
        show PySem.W.Looks M s.heap (bindArgs _ ⟨us, [(kw, v)]⟩) _
        rw [e1]
        exact looks_items X lT oT (.of_pure e2)
  refine ⟨f, fd, g, F.kp, B0, B1, B2, F.ok S len fun cdv A outer s H vs Q E hr h => ?_⟩
  obtain ⟨t, p, q⟩ := body f cdv A outer s H vs Q E hr h
  exact ⟨t, p.nox, q⟩
end
section
variable {X : Cx}
/-- the default taken -/
theorem pe_callDH {k n : Nat} {x kw : Str} {ps : List Str} {sp : Sp} {p pos : Pos} {e : Expr} {es : List Expr} {t : TA} (G : HasD X.prog X.w X.K X.mg X.base k x ps n kw sp) (hr : Room k X.A) (hg : Gl X x) (ha : PA X (e :: es) t)
    (hdb : (x == ("__debug__" : Str)) = false := by decide) (he : starEach (e :: es) X.env = (false, eval e X.env) :: starEach es X.env := by rfl) (hpl : (backTo pos (starEach es X.env)).any (·.1) = false := by rfl) :
    PE X (.Call (.Name x p) (e :: es) [] pos) (tCall sp [.non] E0 t) := by
  obtain ⟨f, fd, g, kp, _, ⟨ds, v, b⟩, _, F⟩ := G
  exact pe_call F hr hg g kp b v pass0 ha hdb he hpl
/-- the last one by its name -/
theorem pe_callNH {k n : Nat} {x kw : Str} {ps : List Str} {sp : Sp} {p pos : Pos} {e : Expr} {es : List Expr} {kws : List Keyword} {t tk : TA} (G : HasD X.prog X.w X.K X.mg X.base k x ps n kw sp) (hr : Room k X.A) (hg : Gl X x) (ha : PA X (e :: es) t) (hk : PK X kws tk)
    (h1 : (backToKw pos (keywordEach kws X.env)).all (·.1.isSome) = true := by rfl) (h2 : (backToKw pos (keywordEach kws X.env)).filterMap (·.1) = [kw] := by rfl) (hdb : (x == ("__debug__" : Str)) = false := by decide)
    (he : starEach (e :: es) X.env = (false, eval e X.env) :: starEach es X.env := by rfl) (hpl : ((backTo pos (starEach (e :: es) X.env)).any (·.1) || (backToKw pos (keywordEach kws X.env)).any (·.1.isNone)) = false := by rfl) :
    PE X (.Call (.Name x p) (e :: es) kws pos) (tCallN n 1 sp (fun vs zs => vs ++ zs) E0 t tk) := by
  obtain ⟨f, fd, g, kp, _, _, b, F⟩ := G
  exact pe_callN F hr hg g kp b pass0 ha hk h1 h2 hdb he hpl
end
section
variable {P : Program} {w : World} {K : PySem.W.Frag} {mg : Str → Option Value} {base : Heap}
theorem SeqOk.pos {rs : List Run} (h : SeqOk rs) : ∀ r ∈ rs, 1 ≤ r.2 := fun r m => (h.2.1 r m).2.1
theorem pieceR_pos {b s e : Int} {r x : Run} (h : x ∈ pieceR b s e r) : 1 ≤ x.2 := by
  unfold pieceR at h
  split at h
  · rename_i z
    simp only [List.mem_singleton] at h
    subst h
    show 1 ≤ sizeR b s e r.2
    omega
  · cases h
theorem cutR_pos {s e : Int} : ∀ {l : List Run} {b : Int}, ∀ x ∈ cutR s e b l, 1 ≤ x.2
  | [], _, x, h => by cases h
  | r :: t, b, x, h => by
    rcases List.mem_append.mp (show x ∈ pieceR b s e r ++ cutR s e (b + r.2) t from h) with h | h
    · exact pieceR_pos h
    · exact cutR_pos x h
end
end UP

set_option Elab.async false
set_option linter.all false
set_option maxRecDepth 100000
set_option maxHeartbeats 4000000
namespace UP
open PySem PySem.Spec PyProof.Rows L2
section
variable {P : Program} {w : World} {K : PySem.W.Frag} {mg : Str → Option Value} {base : Heap}
end
end UP

set_option Elab.async false
set_option linter.all false
set_option maxRecDepth 100000
set_option maxHeartbeats 4000000
namespace UP
open PySem PySem.Spec PyProof.Rows L2
/-! ### data -/
def dRun (r : Run) : PyData := .tuple [.str r.1, .int r.2]
theorem dp_run {K : PySem.W.Frag} {H : Hp} {v : V} {r : Run} (h : RunV H v r) : Dp K H v (dRun r) := by
  obtain ⟨t, rfl, h⟩ := h
  exact .tup (.of h) (.cons (.str _) (.cons (.int _) .nil))
theorem dp_all {K : PySem.W.Frag} {H : Hp} : ∀ {xs : List V} {rs : List Run}, Paired (RunV H) xs rs → DpAll K H xs (rs.map dRun)
  | _, _, .nil => .nil
  | _, _, .cons h t => .cons (dp_run h) (dp_all t)
theorem KindOk.str {s : Str} (h : KindOk s) : PyData.strOk s = true := by
  unfold PyData.strOk
  rw [Array.all_eq_true']
  intro c hc
  have := h.2.2 c (by simpa using hc)
  exact decide_eq_true (by omega)
theorem can_run {r : Run} (h : KindOk r.1) : (dRun r).canLay0 = true := by
  simp [dRun, PyData.canLay0, PyData.canLayAll0, h.str]
theorem can_runs : ∀ {rs : List Run}, (∀ r ∈ rs, KindOk r.1) → PyData.canLayAll0 (rs.map dRun) = true
  | [], _ => by simp [PyData.canLayAll0]
  | r :: t, h => by
    rw [List.map_cons, PyData.canLayAll0, can_run (h r (List.mem_cons_self ..)), can_runs fun x hx => h x (List.mem_cons_of_mem _ hx)]
    rfl
theorem depth_run (r : Run) : (dRun r).depth ≤ 2 := by
  simp [dRun, PyData.depth, PyData.depthAll]
theorem depth_runs : ∀ (rs : List Run), PyData.depthAll (rs.map dRun) ≤ 2
  | [] => by simp [PyData.depthAll]
  | r :: t => by
    rw [List.map_cons, PyData.depthAll]
    exact Nat.max_le.mpr ⟨depth_run r, depth_runs t⟩
theorem shaped_runs {rs : List Run} (h : ∀ r ∈ rs, KindOk r.1) : SeqAt.shaped (.list (rs.map dRun)) = true := by
  unfold SeqAt.shaped
  rw [PyData.canLay0, can_runs h, PyData.depth]
  have := depth_runs rs
  exact decide_eq_true (by omega)
theorem shaped_run {r : Run} (h : KindOk r.1) : SeqAt.shaped (dRun r) = true := by
  unfold SeqAt.shaped
  rw [can_run h]
  have := depth_run r
  exact decide_eq_true (by omega)
theorem shaped_nil : SeqAt.shaped (.list []) = true := by decide
theorem eqv_nil (rs : List Run) : PyData.eqv (.list (rs.map dRun)) (.list []) = rs.isEmpty := by
  cases rs with
  | nil => simp [PyData.eqv, PyData.eqvAll]
  | cons r t => simp [PyData.eqv, PyData.eqvAll]
theorem sb {sp : Addr} {H H' : Hp} (h : Same H H') : But sp H H' := fun b o _ e => h b o e
theorem But.free {sp : Addr} {H H' : Hp} (b : But sp H H') (z : Spr H' sp) {p : Addr} (h : H' p = none) : H p = none := by
  by_cases e : p = sp
  · subst e
    obtain ⟨_, _, _, h1, _⟩ := z
    rw [h1] at h
    cases h
  · cases q : H p with
    | none => rfl
    | some o =>
      rw [b p o e q] at h
      cases h
theorem Spr.ne {sp p : Addr} {H : Hp} (z : Spr H sp) (h : H p = none) : p ≠ sp := by
  obtain ⟨_, _, _, h1, _⟩ := z
  exact fun e => by rw [e, h1] at h; cases h
instance (s : Str) : Decidable (KindOk s) := by
  unfold KindOk
  infer_instance
section
variable {P : Program} {w : World} {K : PySem.W.Frag} {mg : Str → Option Value} {base : Heap}
end
end UP

set_option Elab.async false
set_option linter.all false
set_option maxRecDepth 100000
set_option maxHeartbeats 4000000
namespace UP
open PySem PySem.Spec PyProof.Rows L2
theorem pe_bmK {X : Cx} {K : PySem.W.Frag} {e : Expr} {c : String} {r : V → List V → Hp → VK → Prop} {to : TE} {t : TA} (h : X.K = K) (p : PE X e (tBM X.K c r to t)) : PE X e (tBM K c r to t) := h ▸ p
theorem if_by {c : TT} {t u : TS} {D : Ends} {σ : L2.St} {H : Hp} (R : Bool → Hp → Prop) (h : ∀ Q' : Bool → Hp → Prop, (∀ b H', R b H' → Q' b H') → c σ H Q') (ht : ∀ H', R true H' → t D σ H') (hu : ∀ H', R false H' → u D σ H') : tIfS c t u D σ H := by
  refine h _ fun b H' r => ?_
  cases b with
  | true => exact iteT (ht H' r)
  | false => exact iteF (hu H' r)
theorem erase_map {α β : Type} (f : α → β) : ∀ (l : List α) (i : Nat), (l.map f).eraseIdx i = (l.eraseIdx i).map f
  | [], _ => rfl
  | x :: t, 0 => rfl
  | x :: t, i + 1 => by
    simp only [List.map_cons, List.eraseIdx_cons_succ]
    rw [erase_map f t i]
def eight : List Str := ["a", "b", "c", "ab", "zz", "abcdefgh", "aa", "z"]
theorem eight_ok : ∀ s ∈ eight, KindOk s := by decide +kernel
theorem alt_snoc {l : List Run} {x : Run} (h : Alt l) (k : ∀ y, l[l.length - 1]? = some y → y.1 ≠ x.1) : Alt (l ++ [x]) := by
  intro i a b ha hb
  by_cases h1 : i + 1 < l.length
  · rw [List.getElem?_append_left (by omega)] at ha
    rw [List.getElem?_append_left h1] at hb
    exact h i a b ha hb
  · by_cases h2 : i + 1 = l.length
    · rw [List.getElem?_append_left (by omega)] at ha
      rw [List.getElem?_append_right (by omega), h2, Nat.sub_self] at hb
      cases hb
      rw [show i = l.length - 1 by omega] at ha
      exact k a ha
    · rw [List.getElem?_append_right (by omega)] at hb
      rw [List.getElem?_eq_none (by simp; omega)] at hb
      cases hb
theorem pow62 {x : Int} (h0 : 0 ≤ x) (h1 : x ≤ 1000000) : -(2 ^ 62) ≤ x ∧ x < 2 ^ 62 := by omega
theorem wide8 {m : Int} (h0 : 0 ≤ m) (h1 : m ≤ 1000000000000000000000000000000000000000000000000000000000000) : m.natAbs < 2 ^ 8000 :=
  Nat.lt_of_lt_of_le (show m.natAbs < 2 ^ 256 by omega) (Nat.pow_le_pow_right (by decide) (by decide))
section
variable {P : Program} {w : World} {K : PySem.W.Frag} {mg : Str → Option Value} {base : Heap}
end
end UP

set_option Elab.async false
set_option linter.all false
set_option maxRecDepth 100000
set_option maxHeartbeats 4000000
namespace UP
open PySem PySem.Spec PyProof.Rows L2
def scR (t : Int) (rs : List Run) : List Run := rs.map fun r => (r.1, r.2 * t)
def toldR (ws : List Run) : Option Run := match ws with
  | [] => none
  | r :: _ => some (r.1, (ws.length : Int))
def repR (k : Str) (n : Int) : Option Run := if n = 0 then none else some (k, n)
theorem repR_zero (k : Str) : repR k 0 = none := if_pos rfl
theorem repR_pos {k : Str} {n : Int} (h : 0 < n) : repR k n = some (k, n) := if_neg (by omega)
def PosO (st : Option Run) : Prop := ∀ r, st = some r → 1 ≤ r.2
theorem stepR_pos {st : Option Run} {k : Str} {c : Int} (h : PosO st) (hc : 1 ≤ c) : PosO (stepR st k c) := by
  intro r e
  cases st with
  | none =>
    cases e
    exact hc
  | some x =>
    have hx := h x rfl
    have e : (if x.1 = k then some (k, x.2 + c) else if 0 < x.2 - c then some (x.1, x.2 - c) else if x.2 - c = 0 then none else some (k, -(x.2 - c))) = some r := e
    by_cases h1 : x.1 = k
    · rw [if_pos h1] at e
      cases e
      show 1 ≤ x.2 + c
      omega
    · rw [if_neg h1] at e
      by_cases h2 : 0 < x.2 - c
      · rw [if_pos h2] at e
        cases e
        show 1 ≤ x.2 - c
        omega
      · rw [if_neg h2] at e
        by_cases h3 : x.2 - c = 0
        · rw [if_pos h3] at e
          cases e
        · rw [if_neg h3] at e
          cases e
          show 1 ≤ -(x.2 - c)
          omega
theorem stR_cons (r : Run) (l : List Run) (st : Option Run) : stR (r :: l) st = stR l (stepR st r.1 r.2) := rfl
theorem stR_pos : ∀ {rs : List Run} {st : Option Run}, PosO st → (∀ r ∈ rs, 1 ≤ r.2) → PosO (stR rs st)
  | [], _, h, _ => h
  | r :: t, st, h, k => by
    rw [stR_cons]
    exact stR_pos (stepR_pos h (k r (List.mem_cons_self ..))) fun x hx => k x (List.mem_cons_of_mem _ hx)
theorem StOk.pos {st : Option Run} (h : StOk st) : PosO st := fun r e => (h r e).2
section
variable {P : Program} {w : World} {K : PySem.W.Frag} {mg : Str → Option Value} {base : Heap}
end
end UP

set_option Elab.async false
set_option linter.all false
set_option maxRecDepth 100000
set_option maxHeartbeats 4000000
namespace UP
open PySem PySem.Spec PyProof.Rows L2
/-! ### plain data, by depth -/
def Dsc (v : V) (d : PyData) : Prop := (v = .non ∧ d = .none) ∨ (∃ b, v = .bl b ∧ d = .bool b) ∨ (∃ i, v = .int i ∧ d = .int i) ∨ ∃ s, v = .str s ∧ d = .str s
def Dt (H : Hp) : Nat → V → PyData → Prop
  | 0, v, d => Dsc v d
  | n + 1, v, d => Dsc v d ∨ (∃ a xs ds, v = .ref a ∧ H a = some (.lst xs) ∧ d = .list ds ∧ Paired (Dt H n) xs ds ∧ ds.length ≤ 100000) ∨ ∃ a xs ds, v = .ref a ∧ H a = some (.tup xs) ∧ d = .tuple ds ∧ Paired (Dt H n) xs ds ∧ ds.length ≤ 100000
theorem Dt.same {H H' : Hp} (s : Same H H') : ∀ {n : Nat} {v : V} {d : PyData}, Dt H n v d → Dt H' n v d
  | 0, _, _, h => h
  | n + 1, v, d, h => by
    rcases h with h | ⟨a, xs, ds, e, h, e2, p, l⟩ | ⟨a, xs, ds, e, h, e2, p, l⟩
    · exact .inl h
    · exact .inr (.inl ⟨a, xs, ds, e, s _ _ h, e2, Paired.imp (fun _ _ z => Dt.same s z) p, l⟩)
    · exact .inr (.inr ⟨a, xs, ds, e, s _ _ h, e2, Paired.imp (fun _ _ z => Dt.same s z) p, l⟩)
theorem dsc_ref {a : Addr} {d : PyData} (h : Dsc (.ref a) d) : False := by
  rcases h with ⟨h, _⟩ | ⟨_, h, _⟩ | ⟨_, h, _⟩ | ⟨_, h, _⟩ <;> cases h
theorem dsc_lst {v : V} {ds : List PyData} (h : Dsc v (.list ds)) : False := by
  rcases h with ⟨_, h⟩ | ⟨_, _, h⟩ | ⟨_, _, h⟩ | ⟨_, _, h⟩ <;> cases h
theorem dsc_tup {v : V} {ds : List PyData} (h : Dsc v (.tuple ds)) : False := by
  rcases h with ⟨_, h⟩ | ⟨_, _, h⟩ | ⟨_, _, h⟩ | ⟨_, _, h⟩ <;> cases h
theorem dsc_one {v v' : V} {d : PyData} (h : Dsc v d) (h' : Dsc v' d) : v = v' := by
  rcases h with ⟨e, z⟩ | ⟨x, e, z⟩ | ⟨x, e, z⟩ | ⟨x, e, z⟩ <;> subst z <;> rcases h' with ⟨e', z⟩ | ⟨y, e', z⟩ | ⟨y, e', z⟩ | ⟨y, e', z⟩ <;> cases z <;> rw [e, e']
theorem kit_no {K : PySem.W.Frag} {c : String} (h1 : kitB c "list" = some false) (h2 : kitB c "tuple" = some false) : PySem.W.kitAny K (.type c) [.type "list", .type "tuple"] = some false :=
  kitAny_cons (b := false) (kit_ty h1) (fun _ => kitAny_cons (b := false) (kit_ty h2) (fun _ => rfl) (fun z => nomatch z)) (fun z => nomatch z)
theorem ixL {K : PySem.W.Frag} {x y : V} {H : Hp} {Q : VK} (h : rIxL K x y H Q) : rIx K x y H Q := .inl h
theorem ixT {K : PySem.W.Frag} {x y : V} {H : Hp} {Q : VK} (h : rIxT K x y H Q) : rIx K x y H Q := .inr (.inl h)
section
variable {P : Program} {w : World} {K : PySem.W.Frag} {mg : Str → Option Value} {base : Heap}
end
end UP

set_option Elab.async false
set_option linter.all false
set_option maxRecDepth 100000
set_option maxHeartbeats 4000000
namespace UP
open PySem PySem.Spec PyProof.Rows L2
/-! ### a walk over one object that stays, whatever else is changed -/
structure WkA (J : It) (H : Hp) (a : Addr) (xs : List V) : Prop where
  go : ∀ i H', H' a = H a → i < xs.length → J.go i H'
  stop : ∀ H', H' a = H a → J.stop xs.length H'
  yld : ∀ i x H' H'', H' a = H a → J.yld i H' x H'' → H'' = H' ∧ xs[i]? = some x
def iSeqA (i : Nat) : TI := fun σ H R => ∃ a xs, σ[i]? = some (some (.ref a)) ∧ Sq2 H a xs ∧ ∀ J, WkA J H a xs → R J H
section
variable {X : Cx}
theorem wka_list {K : PySem.W.Frag} {H : Hp} {a : Addr} {xs : List V} (h : H a = some (.lst xs)) : WkA (Itl K a) H a xs :=
  ⟨fun i H' e hi => ⟨xs, xs[i], .of (e.trans h), List.getElem?_eq_getElem hi⟩, fun H' e => ⟨xs, .of (e.trans h), Nat.le_refl _⟩, fun i x H' H'' e y => ⟨y.1, y.2 xs (.of (e.trans h))⟩⟩
theorem wka_tup {K : PySem.W.Frag} {H : Hp} {a : Addr} {xs : List V} (h : H a = some (.tup xs)) : WkA (Itt K a) H a xs :=
  ⟨fun i H' e hi => ⟨xs, xs[i], .of (e.trans h), List.getElem?_eq_getElem hi⟩, fun H' e => ⟨xs, .of (e.trans h), Nat.le_refl _⟩, fun i x H' H'' e y => ⟨y.1, y.2 xs (.of (e.trans h))⟩⟩
theorem pi_seqA (i : Nat) {x : Str} {pos : Pos} {tg : Expr} (hN : X.N[i]? = some x := by rfl) (hv : Vis X.env.scope x := by first | exact Or.inl rfl | exact Or.inr (Or.inl rfl) | exact Or.inr (Or.inr rfl)) (hd : (x == ("__debug__" : Str)) = false := by decide)
    (hc : (x == ("__classdict__" : Str)) = false := by decide) : PI X tg (.Name x pos) (iSeqA i) := by
  refine ⟨fun pins s σ H R I hw => ?_⟩
  obtain ⟨a, xs, e, h, k⟩ := hw
  rcases h with h | h
  · exact (pi_list (pe_var hN hv hd hc)).run pins s σ H R I ⟨_, e, a, rfl, ⟨xs, .of h⟩, k _ (wka_list h)⟩
  · exact (pi_tup (pe_var hN hv hd hc)).run pins s σ H R I ⟨_, e, a, rfl, ⟨xs, .of h⟩, k _ (wka_tup h)⟩
end
theorem lc_wka {J : It} {H0 H1 : Hp} {a : Addr} {xs : List V} {g : TG} {tt : TT} {te : TE} {vs : List Nat} {σ : L2.St} {D : Addr} {Qd : Hp → Prop} (wk : WkA J H0 a xs) (Pv : Nat → Hp → Prop) (hsm : ∀ i H, Pv i H → H a = H0 a) (h0 : Pv 0 (upd H1 D (.lst [])))
    (hs : ∀ i x H, xs[i]? = some x → Pv i H → g x (wipe σ vs) H fun σ2 H2 => wipe σ2 vs = wipe σ vs ∧ tt σ2 H2 fun b H3 =>
      if b = true then te σ2 H3 fun y H4 => ∃ acc, H4 D = some (.lst acc) ∧ acc.length < sizeLine ∧ Pv (i + 1) (upd H4 D (.lst (acc ++ [y]))) else Pv (i + 1) H3) (hd : ∀ H, Pv xs.length H → Qd H) :
    ∃ W : Nat → Nat → Hp → Prop, (∃ m, W 0 m (upd H1 D (.lst []))) ∧ ∀ i m H, W i m H →
      (J.stop i H ∧ Qd H) ∨ (J.go i H ∧ ∃ Nx : Hp → Prop, (∀ H', Nx H' → ∃ m', m' < m ∧ W (i + 1) m' H') ∧ ∀ x H', J.yld i H x H' → g x (wipe σ vs) H' fun σ2 H2 => wipe σ2 vs = wipe σ vs ∧ tt σ2 H2 fun b H3 =>
        if b = true then te σ2 H3 fun y H4 => ∃ acc, H4 D = some (.lst acc) ∧ acc.length < sizeLine ∧ Nx (upd H4 D (.lst (acc ++ [y]))) else Nx H3) := by
  refine lc_gen Pv h0 (fun i H hi p => wk.go i H (hsm i H p) hi) (fun H p => wk.stop H (hsm _ H p)) (fun i x H H' hi p y => ?_) hd
  obtain ⟨e, ex⟩ := wk.yld i x H H' (hsm i H p) y
  subst e
  exact hs i x _ ex p
theorem for_gen {J : It} {n : Nat} {H : Hp} {g : TG} {tb : TS} {D : Ends} {σ : L2.St} (Pv : Nat → L2.St → Hp → Prop) (h0 : Pv 0 σ H) (hg : ∀ i σ H, i < n → Pv i σ H → J.go i H) (hst : ∀ σ H, Pv n σ H → J.stop n H)
    (hs : ∀ i x σ H H', i < n → Pv i σ H → J.yld i H x H' → g x σ H' fun σ2 H2 => tb { D with nx := Pv (i + 1), ct := Pv (i + 1), bk := D.nx } σ2 H2) (hd : ∀ σ H, Pv n σ H → D.nx σ H) :
    ∃ W : Nat → Nat → L2.St → Hp → Prop, (∃ m, W 0 m σ H) ∧ ∀ i m σ H, W i m σ H →
      (J.stop i H ∧ D.nx σ H) ∨ (J.go i H ∧ ∃ N : L2.St → Hp → Prop, (∀ σ' H', N σ' H' → ∃ m', m' < m ∧ W (i + 1) m' σ' H') ∧ ∀ x H', J.yld i H x H' → g x σ H' fun σ2 H2 => tb { D with nx := N, ct := N, bk := D.nx } σ2 H2) := by
  refine ⟨fun i m σ H => m = n - i ∧ i ≤ n ∧ Pv i σ H, ⟨n, by omega, Nat.zero_le _, h0⟩, ?_⟩
  rintro i m σ H ⟨rfl, hi, p⟩
  by_cases hlt : i < n
  · exact Or.inr ⟨hg i σ H hlt p, Pv (i + 1), fun σ' H' p' => ⟨n - (i + 1), by omega, rfl, hlt, p'⟩, fun x H' y => hs i x σ H H' hlt p y⟩
  · have e : i = n := by omega
    subst e
    exact Or.inl ⟨hst σ H p, hd σ H p⟩
theorem for_wka {J : It} {H0 H : Hp} {a : Addr} {xs : List V} {g : TG} {tb : TS} {D : Ends} {σ : L2.St} (wk : WkA J H0 a xs) (Pv : Nat → L2.St → Hp → Prop) (hsm : ∀ i σ H, Pv i σ H → H a = H0 a) (h0 : Pv 0 σ H)
    (hs : ∀ i x σ H, xs[i]? = some x → Pv i σ H → g x σ H fun σ2 H2 => tb { D with nx := Pv (i + 1), ct := Pv (i + 1), bk := D.nx } σ2 H2) (hd : ∀ σ H, Pv xs.length σ H → D.nx σ H) :
    ∃ W : Nat → Nat → L2.St → Hp → Prop, (∃ m, W 0 m σ H) ∧ ∀ i m σ H, W i m σ H →
      (J.stop i H ∧ D.nx σ H) ∨ (J.go i H ∧ ∃ N : L2.St → Hp → Prop, (∀ σ' H', N σ' H' → ∃ m', m' < m ∧ W (i + 1) m' σ' H') ∧ ∀ x H', J.yld i H x H' → g x σ H' fun σ2 H2 => tb { D with nx := N, ct := N, bk := D.nx } σ2 H2) := by
  refine for_gen Pv h0 (fun i σ H hi p => wk.go i H (hsm i σ H p) hi) (fun σ H p => wk.stop H (hsm _ σ H p)) (fun i x σ H H' hi p y => ?_) hd
  obtain ⟨e, ex⟩ := wk.yld i x H H' (hsm i σ H p) y
  subst e
  exact hs i x σ _ ex p
theorem Sq2.eq {H H' : Hp} {a : Addr} {xs : List V} (h : Sq2 H a xs) (s : Same H H') : H' a = H a := h.elim (fun z => (s _ _ z).trans z.symm) (fun z => (s _ _ z).trans z.symm)
/-! ### data without its dress -/
def Sim (N : Addr → Prop) (H : Hp) : Nat → V → PyData → Prop
  | 0, v, d => Dsc v d
  | n + 1, v, d => Dsc v d ∨ ∃ a xs ds, v = .ref a ∧ N a ∧ Sq2 H a xs ∧ d = .list ds ∧ Paired (Sim N H n) xs ds ∧ ds.length ≤ 1000
theorem Sim.keep {N N' : Addr → Prop} {H H' : Hp} (hn : ∀ a, N a → N' a) (hk : ∀ a o, N a → H a = some o → H' a = some o) : ∀ {n : Nat} {v : V} {d : PyData}, Sim N H n v d → Sim N' H' n v d
  | 0, _, _, h => h
  | n + 1, v, d, h => by
    rcases h with h | ⟨a, xs, ds, e, na, hx, e2, p, l⟩
    · exact .inl h
    · exact .inr ⟨a, xs, ds, e, hn a na, hx.elim (fun z => .inl (hk _ _ na z)) (fun z => .inr (hk _ _ na z)), e2, Paired.imp (fun _ _ z => Sim.keep hn hk z) p, l⟩
theorem Sim.dsc {N : Addr → Prop} {H : Hp} {v : V} {d : PyData} : ∀ {n : Nat}, Dsc v d → Sim N H n v d
  | 0, h => h
  | n + 1, h => .inl h
section
variable {P : Program} {w : World} {K : PySem.W.Frag} {mg : Str → Option Value} {base : Heap}
end
end UP

set_option Elab.async false
set_option linter.all false
set_option maxRecDepth 100000
set_option maxHeartbeats 4000000
namespace UP
open PySem PySem.Spec PyProof.Rows L2
/-! ### waiting items one by one -/
def plS (ws : List Run) (k : Str) (n : Nat) : List Run := match ws with
  | [] => [(k, (n : Int))]
  | r :: t => if r.1 = k then (r :: t) ++ [(k, (n : Int))] else t
def plP (ws : List Run) (k : Str) (n : Nat) : List (Int × Int) := match ws with
  | [] => []
  | r :: _ => if r.1 = k then [] else [(r.2, (n : Int))]
def plA (ws : List Run) (n : Nat) : List Str → List Run
  | [] => ws
  | k :: t => plA (plS ws k n) (n + 1) t
def psR (ws : List Run) (n : Nat) : List Str → List (Int × Int)
  | [] => []
  | k :: t => plP ws k n ++ psR (plS ws k n) (n + 1) t
theorem plA_snoc : ∀ (l : List Str) (ws : List Run) (n : Nat) (k : Str), plA ws n (l ++ [k]) = plS (plA ws n l) k (n + l.length)
  | [], ws, n, k => rfl
  | x :: t, ws, n, k => by
    show plA (plS ws x n) (n + 1) (t ++ [k]) = plS (plA (plS ws x n) (n + 1) t) k (n + (x :: t).length)
    rw [plA_snoc t, List.length_cons, show n + 1 + t.length = n + (t.length + 1) by omega]
theorem psR_snoc : ∀ (l : List Str) (ws : List Run) (n : Nat) (k : Str), psR ws n (l ++ [k]) = psR ws n l ++ plP (plA ws n l) k (n + l.length)
  | [], ws, n, k => by
    show plP ws k n ++ [] = [] ++ plP ws k (n + 0)
    rw [List.append_nil, List.nil_append, Nat.add_zero]
  | x :: t, ws, n, k => by
    show plP ws x n ++ psR (plS ws x n) (n + 1) (t ++ [k]) = (plP ws x n ++ psR (plS ws x n) (n + 1) t) ++ plP (plA (plS ws x n) (n + 1) t) k (n + (x :: t).length)
    rw [psR_snoc t, List.length_cons, List.append_assoc, show n + 1 + t.length = n + (t.length + 1) by omega]
def plMs (ws : List Run) (ks : List Str) : List (List Run) := (List.range (ks.length + 1)).map fun m => plA ws 0 (ks.take m)
theorem plMs_snoc (ws : List Run) (l : List Str) (k : Str) : plMs ws (l ++ [k]) = plMs ws l ++ [plA ws 0 (l ++ [k])] := by
  unfold plMs
  rw [List.length_append, List.length_cons, List.length_nil, Nat.zero_add, List.range_succ, List.map_append]
  congr 1
  · refine List.map_congr_left fun m hm => ?_
    have : m ≤ l.length := by
      have := List.mem_range.mp hm
      omega
    rw [List.take_append_of_le_length this]
  · rw [List.map_singleton, List.take_of_length_le (by rw [List.length_append]; exact Nat.le_refl _)]
theorem plMs_nil (ws : List Run) : plMs ws [] = [ws] := rfl
theorem plMs_len (ws : List Run) (l : List Str) : (plMs ws l).length = l.length + 1 := by
  unfold plMs
  rw [List.length_map, List.length_range]
theorem plS_len (ws : List Run) (k : Str) (n : Nat) : (plS ws k n).length ≤ ws.length + 1 := by
  cases ws with
  | nil => exact Nat.le_refl _
  | cons r t =>
    show (if r.1 = k then (r :: t) ++ [(k, (n : Int))] else t).length ≤ _
    split
    · rw [List.length_append]
      exact Nat.le_refl _
    · rw [List.length_cons]
      omega
theorem plA_len : ∀ (l : List Str) (ws : List Run) (n : Nat), (plA ws n l).length ≤ ws.length + l.length
  | [], ws, n => Nat.le_refl _
  | k :: t, ws, n => by
    have h1 := plA_len t (plS ws k n) (n + 1)
    have h2 := plS_len ws k n
    show (plA (plS ws k n) (n + 1) t).length ≤ _
    rw [List.length_cons]
    omega
theorem plP_len (ws : List Run) (k : Str) (n : Nat) : (plP ws k n).length ≤ 1 := by
  cases ws with
  | nil => exact Nat.zero_le _
  | cons r t =>
    show (if r.1 = k then [] else [(r.2, (n : Int))]).length ≤ 1
    split <;> simp
theorem psR_len : ∀ (l : List Str) (ws : List Run) (n : Nat), (psR ws n l).length ≤ l.length
  | [], ws, n => Nat.le_refl _
  | k :: t, ws, n => by
    have h1 := psR_len t (plS ws k n) (n + 1)
    have h2 := plP_len ws k n
    show (plP ws k n ++ psR (plS ws k n) (n + 1) t).length ≤ _
    rw [List.length_append, List.length_cons]
    omega
theorem plS_kinds {ws : List Run} {k : Str} {n : Nat} (h : ∀ r ∈ ws, KindOk r.1) (hk : KindOk k) : ∀ r ∈ plS ws k n, KindOk r.1 := by
  intro r hr
  cases ws with
  | nil =>
    rw [List.mem_singleton.mp (show r ∈ [(k, (n : Int))] from hr)]
    exact hk
  | cons x t =>
    have hr : r ∈ (if x.1 = k then (x :: t) ++ [(k, (n : Int))] else t) := hr
    by_cases e : x.1 = k
    · rw [if_pos e] at hr
      rcases List.mem_append.mp hr with z | z
      · exact h r z
      · rw [List.mem_singleton.mp z]
        exact hk
    · rw [if_neg e] at hr
      exact h r (List.mem_cons_of_mem _ hr)
theorem plA_kinds : ∀ {l : List Str} {ws : List Run} {n : Nat}, (∀ r ∈ ws, KindOk r.1) → (∀ k ∈ l, KindOk k) → ∀ r ∈ plA ws n l, KindOk r.1
  | [], _, _, h, _ => h
  | k :: t, ws, n, h, hl => plA_kinds (l := t) (plS_kinds h (hl k (List.mem_cons_self ..))) fun x hx => hl x (List.mem_cons_of_mem _ hx)
def w0R : Option Run → List Run
  | none => []
  | some r => List.replicate r.2.toNat (r.1, -1)
def itR (rs : List Run) : List Str := rs.flatMap fun r => List.replicate r.2.toNat r.1
theorem itR_snoc (l : List Run) (r : Run) : itR (l ++ [r]) = itR l ++ List.replicate r.2.toNat r.1 := by
  unfold itR
  rw [List.flatMap_append]
  simp
def PV (H : Hp) (v : V) (p : Int × Int) : Prop := ∃ t, v = .ref t ∧ H t = some (.tup [.int p.1, .int p.2])
theorem PV.same {H H' : Hp} {v : V} {p : Int × Int} (s : Same H H') (h : PV H v p) : PV H' v p := by
  obtain ⟨t, e, h⟩ := h
  exact ⟨t, e, s _ _ h⟩
theorem PV.grow {H : Hp} {D : Addr} {acc acc' : List V} {v : V} {p : Int × Int} (hD : H D = some (.lst acc)) (h : PV H v p) : PV (upd H D (.lst acc')) v p := by
  obtain ⟨t, e, h⟩ := h
  refine ⟨t, e, ?_⟩
  rw [upd_ne (ne_of h hD (by intro q; cases q))]
  exact h
theorem Runs.grow {H : Hp} {D a : Addr} {acc acc' : List V} {ws : List Run} (hD : H D = some (.lst acc)) (n : a ≠ D) (h : Runs H a ws) : Runs (upd H D (.lst acc')) a ws := by
  obtain ⟨xs, hx, hp⟩ := h
  refine ⟨xs, ?_, prs_grow hD hp⟩
  rw [upd_ne n]
  exact hx
/-- a list of runs apart from two others -/
def WL (H : Hp) (M N : Addr) (v : V) (ws : List Run) : Prop := ∃ a, v = .ref a ∧ a ≠ M ∧ a ≠ N ∧ Runs H a ws
theorem WL.same {H H' : Hp} {M N : Addr} {v : V} {ws : List Run} (s : Same H H') (h : WL H M N v ws) : WL H' M N v ws := by
  obtain ⟨a, e, n1, n2, h⟩ := h
  exact ⟨a, e, n1, n2, h.same s⟩
/-- what the play keeps -/
structure Pl (H0 H : Hp) (W M N : Addr) (ws0 : List Run) (ks ls : List Str) : Prop where
  sm : Same H0 H
  wm : W ≠ M
  wn : W ≠ N
  wr : Runs H W (plA ws0 0 ls)
  ms : ∃ xs, H M = some (.lst xs) ∧ Paired (WL H M N) xs (plMs ws0 ks)
  ps : ∃ ys, H N = some (.lst ys) ∧ Paired (PV H) ys (psR ws0 0 ls)
theorem flat_one {α : Type} (x : α) : ∀ n : Nat, (List.replicate n [x]).flatten = List.replicate n x
  | 0 => rfl
  | n + 1 => by
    rw [List.replicate_succ, List.flatten_cons, flat_one x n]
    rfl
theorem paired_rep {α β : Type} {F : α → β → Prop} {a : α} {b : β} (h : F a b) : ∀ n : Nat, Paired F (List.replicate n a) (List.replicate n b)
  | 0 => .nil
  | n + 1 => .cons h (paired_rep h n)
theorem len_items {rs : List Run} (h : ∀ r ∈ rs, 1 ≤ r.2 ∧ r.2 ≤ 1000) : (itR rs).length ≤ 1000 * rs.length := by
  induction rs with
  | nil => exact Nat.le_refl _
  | cons r t ih =>
    have e : itR (r :: t) = List.replicate r.2.toNat r.1 ++ itR t := rfl
    have h1 := h r (List.mem_cons_self ..)
    have h2 := ih fun x hx => h x (List.mem_cons_of_mem _ hx)
    rw [e, List.length_append, List.length_replicate, List.length_cons]
    omega
end UP

set_option Elab.async false
set_option linter.all false
set_option maxRecDepth 100000
set_option maxHeartbeats 4000000
namespace UP
open PySem PySem.Spec PyProof.Rows L2
section
variable {P : Program} {w : World} {K : PySem.W.Frag} {mg : Str → Option Value} {base : Heap}
end
end UP

set_option Elab.async false
set_option linter.all false
set_option maxRecDepth 100000
set_option maxHeartbeats 4000000
namespace UP
open PySem PySem.Spec PyProof.Rows L2
/-! ### one arrival after the other -/
def stI (ks : List Str) (st : Option Run) : Option Run := ks.foldl (fun s k => stepR s k 1) st
theorem stI_app (l m : List Str) (st : Option Run) : stI (l ++ m) st = stI m (stI l st) := List.foldl_append ..
theorem step_same {r : Run} {k : Str} {c : Int} (h : r.1 = k) : stepR (some r) k c = some (k, r.2 + c) := if_pos h
theorem step_other {r : Run} {k : Str} {c : Int} (h : r.1 ≠ k) : stepR (some r) k c = if 0 < r.2 - c then some (r.1, r.2 - c) else if r.2 - c = 0 then none else some (k, -(r.2 - c)) := if_neg h
theorem step_step {s : Option Run} {k : Str} {c : Int} (h : PosO s) (hc : 1 ≤ c) : stepR (stepR s k 1) k c = stepR s k (1 + c) := by
  cases s with
  | none => exact step_same (r := (k, 1)) rfl
  | some r =>
    have r1 := h r rfl
    by_cases e : r.1 = k
    · rw [step_same e, step_same e, step_same (r := (k, r.2 + 1)) rfl]
      show some (k, r.2 + 1 + c) = _
      rw [Int.add_assoc]
    · rw [step_other e, step_other e]
      by_cases h1 : 0 < r.2 - 1
      · rw [if_pos h1, step_other (r := (r.1, r.2 - 1)) e]
        show (if 0 < r.2 - 1 - c then some (r.1, r.2 - 1 - c) else if r.2 - 1 - c = 0 then none else some (k, -(r.2 - 1 - c))) = _
        rw [show r.2 - 1 - c = r.2 - (1 + c) by omega]
      · have e2 : r.2 - 1 = 0 := by omega
        rw [if_neg h1, if_pos e2, if_neg (by omega), if_neg (by omega)]
        show some (k, c) = _
        rw [show -(r.2 - (1 + c)) = c by omega]
theorem it_step : ∀ (n : Nat) (s : Option Run) (k : Str), PosO s → stI (List.replicate (n + 1) k) s = stepR s k ((n : Int) + 1)
  | 0, s, k, _ => rfl
  | n + 1, s, k, h => by
    show stI (List.replicate (n + 1) k) (stepR s k 1) = _
    rw [it_step n _ k (stepR_pos h (by decide)), step_step h (by omega)]
    congr 1
    omega
theorem st_items : ∀ (rs : List Run) (st : Option Run), PosO st → (∀ r ∈ rs, 1 ≤ r.2) → stR rs st = stI (itR rs) st
  | [], st, _, _ => rfl
  | r :: t, st, h, k => by
    have c1 := k r (List.mem_cons_self ..)
    have e : itR (r :: t) = List.replicate r.2.toNat r.1 ++ itR t := rfl
    obtain ⟨n, hn⟩ : ∃ n : Nat, r.2.toNat = n + 1 := ⟨r.2.toNat - 1, by omega⟩
    rw [e, stI_app, hn, it_step n _ _ h, stR_cons, show ((n : Int) + 1) = r.2 by omega]
    exact st_items t _ (stepR_pos h c1) fun x hx => k x (List.mem_cons_of_mem _ hx)
theorem take_app {α : Type} : ∀ (l m : List α) (n : Nat), (l ++ m).take n = l.take n ++ m.take (n - l.length)
  | [], m, n => by
    rw [List.nil_append, List.take_nil, List.nil_append, List.length_nil, Nat.sub_zero]
  | x :: t, m, 0 => by
    rw [List.take_zero, List.take_zero, Nat.zero_sub, List.take_zero]
    rfl
  | x :: t, m, n + 1 => by
    rw [List.cons_append, List.take_succ_cons, take_app t m n, List.take_succ_cons, List.length_cons, Nat.add_sub_add_right]
    rfl
theorem it_app (l m : List Run) : itR (l ++ m) = itR l ++ itR m := List.flatMap_append ..
theorem cut_items (e : Int) : ∀ (rs : List Run) (b : Int), 0 ≤ b → (∀ r ∈ rs, 1 ≤ r.2) → itR (cutR 0 e b rs) = (itR rs).take (e - b).toNat
  | [], b, _, _ => by
    show ([] : List Str) = ([] : List Str).take _
    rw [List.take_nil]
  | r :: t, b, hb, k => by
    have c1 := k r (List.mem_cons_self ..)
    have ih := cut_items e t (b + r.2) (by omega) fun x hx => k x (List.mem_cons_of_mem _ hx)
    have e1 : cutR 0 e b (r :: t) = pieceR b 0 e r ++ cutR 0 e (b + r.2) t := rfl
    have e2 : itR (r :: t) = List.replicate r.2.toNat r.1 ++ itR t := rfl
    rw [e1, it_app, ih, e2, take_app, List.length_replicate, List.take_replicate, show (e - (b + r.2)).toNat = (e - b).toNat - r.2.toNat by omega]
    congr 1
    have es : sizeR b 0 e r.2 = (if b + r.2 < e then b + r.2 else e) - b := by
      unfold sizeR
      by_cases h0 : b > 0
      · rw [if_pos h0]
      · rw [if_neg h0, show b = 0 by omega]
    by_cases hs : 0 < sizeR b 0 e r.2
    · rw [show pieceR b 0 e r = [(r.1, sizeR b 0 e r.2)] from if_pos hs]
      show List.replicate (sizeR b 0 e r.2).toNat r.1 ++ [] = _
      rw [List.append_nil]
      congr 1
      rw [es] at hs ⊢
      split <;> omega
    · rw [show pieceR b 0 e r = [] from if_neg hs]
      rw [es] at hs
      rw [show min (e - b).toNat r.2.toNat = 0 by split at hs <;> omega]
      rfl
theorem len_it : ∀ (rs : List Run), (∀ r ∈ rs, 1 ≤ r.2) → ((itR rs).length : Int) = lenR rs
  | [], _ => rfl
  | r :: t, k => by
    have c1 := k r (List.mem_cons_self ..)
    have ih := len_it t fun x hx => k x (List.mem_cons_of_mem _ hx)
    have e2 : itR (r :: t) = List.replicate r.2.toNat r.1 ++ itR t := rfl
    rw [e2, List.length_append, List.length_replicate, lenR_cons]
    omega
/-! ### what is told of waiting items -/
def Uni (ws : List Run) : Prop := ∀ x ∈ ws, ∀ y ∈ ws, x.1 = y.1
theorem uni_plS {ws : List Run} {k : Str} {n : Nat} (h : Uni ws) : Uni (plS ws k n) := by
  cases ws with
  | nil =>
    intro x hx y hy
    rw [List.mem_singleton.mp (show x ∈ [(k, (n : Int))] from hx), List.mem_singleton.mp (show y ∈ [(k, (n : Int))] from hy)]
  | cons r t =>
    by_cases e : r.1 = k
    · rw [show plS (r :: t) k n = (r :: t) ++ [(k, (n : Int))] from if_pos e]
      have all : ∀ x ∈ (r :: t) ++ [(k, (n : Int))], x.1 = k := by
        intro x hx
        rcases List.mem_append.mp hx with z | z
        · rw [h x z r (List.mem_cons_self ..)]
          exact e
        · rw [List.mem_singleton.mp z]
      intro x hx y hy
      rw [all x hx, all y hy]
    · rw [show plS (r :: t) k n = t from if_neg e]
      exact fun x hx y hy => h x (List.mem_cons_of_mem _ hx) y (List.mem_cons_of_mem _ hy)
theorem told_plS {ws : List Run} {k : Str} {n : Nat} (h : Uni ws) : toldR (plS ws k n) = stepR (toldR ws) k 1 := by
  cases ws with
  | nil => rfl
  | cons r t =>
    by_cases e : r.1 = k
    · rw [show plS (r :: t) k n = (r :: t) ++ [(k, (n : Int))] from if_pos e]
      show some (r.1, (((r :: t) ++ [(k, (n : Int))]).length : Int)) = stepR (some (r.1, ((r :: t).length : Int))) k 1
      rw [step_same (r := (r.1, ((r :: t).length : Int))) e, List.length_append, e]
      show some (k, (((r :: t).length + 1 : Nat) : Int)) = some (k, ((r :: t).length : Int) + 1)
      rw [Int.natCast_add]
      rfl
    · rw [show plS (r :: t) k n = t from if_neg e]
      show toldR t = stepR (some (r.1, ((r :: t).length : Int))) k 1
      rw [step_other (r := (r.1, ((r :: t).length : Int))) e]
      cases t with
      | nil => rfl
      | cons x u =>
        have ex : x.1 = r.1 := h x (List.mem_cons_of_mem _ (List.mem_cons_self ..)) r (List.mem_cons_self ..)
        show some (x.1, ((x :: u).length : Int)) = if 0 < ((r :: x :: u).length : Int) - 1 then some (r.1, ((r :: x :: u).length : Int) - 1) else _
        rw [List.length_cons, List.length_cons, List.length_cons, if_pos (by omega), ex]
        congr 2
        omega
theorem told_plA : ∀ (l : List Str) (ws : List Run) (n : Nat), Uni ws → toldR (plA ws n l) = stI l (toldR ws)
  | [], _, _, _ => rfl
  | k :: t, ws, n, h => by
    show toldR (plA (plS ws k n) (n + 1) t) = stI t (stepR (toldR ws) k 1)
    rw [told_plA t _ _ (uni_plS h), told_plS h]
theorem uni_w0 (st : Option Run) : Uni (w0R st) := by
  cases st with
  | none => intro x hx; cases hx
  | some r =>
    intro x hx y hy
    rw [List.eq_of_mem_replicate hx, List.eq_of_mem_replicate hy]
theorem told_w0 {st : Option Run} (h : PosO st) : toldR (w0R st) = st := by
  cases st with
  | none => rfl
  | some r =>
    have r1 := h r rfl
    obtain ⟨n, hn⟩ : ∃ n : Nat, r.2.toNat = n + 1 := ⟨r.2.toNat - 1, by omega⟩
    show toldR (List.replicate r.2.toNat (r.1, (-1 : Int))) = some r
    rw [hn, List.replicate_succ]
    show some (r.1, (((r.1, (-1 : Int)) :: List.replicate n (r.1, (-1 : Int))).length : Int)) = some r
    rw [List.length_cons, List.length_replicate, show ((n + 1 : Nat) : Int) = r.2 by omega]
/-! ### all counts multiplied -/
def scO (t : Int) (st : Option Run) : Option Run := st.map fun r => (r.1, r.2 * t)
theorem lt_sc {a b t : Int} (ht : 0 < t) : a * t < b * t ↔ a < b :=
  ⟨fun h => by
    by_cases z : a < b
    · exact z
    · have := Int.mul_le_mul_of_nonneg_right (show b ≤ a by omega) (Int.le_of_lt ht)
      omega, fun h => Int.mul_lt_mul_of_pos_right h ht⟩
theorem size_sc {b s e c t : Int} (ht : 0 < t) : sizeR (b * t) (s * t) (e * t) (c * t) = sizeR b s e c * t := by
  unfold sizeR
  rw [← Int.add_mul, Int.sub_mul]
  congr 1
  · by_cases h : b + c < e
    · rw [if_pos h, if_pos ((lt_sc ht).mpr h)]
    · rw [if_neg h, if_neg fun z => h ((lt_sc ht).mp z)]
  · by_cases h : b > s
    · rw [if_pos h, if_pos ((lt_sc ht).mpr h)]
    · rw [if_neg h, if_neg fun z => h ((lt_sc ht).mp z)]
theorem pos_sc {a t : Int} (ht : 0 < t) : 0 < a * t ↔ 0 < a := by
  have := lt_sc (a := 0) (b := a) ht
  rw [Int.zero_mul] at this
  exact this
theorem piece_sc {b s e t : Int} {r : Run} (ht : 0 < t) : pieceR (b * t) (s * t) (e * t) (r.1, r.2 * t) = scR t (pieceR b s e r) := by
  unfold pieceR
  show (if 0 < sizeR (b * t) (s * t) (e * t) (r.2 * t) then [(r.1, sizeR (b * t) (s * t) (e * t) (r.2 * t))] else []) = _
  rw [size_sc ht]
  by_cases h : 0 < sizeR b s e r.2
  · rw [if_pos h, if_pos ((pos_sc ht).mpr h)]
    rfl
  · rw [if_neg h, if_neg fun z => h ((pos_sc ht).mp z)]
    rfl
theorem cut_sc {s e t : Int} (ht : 0 < t) : ∀ (rs : List Run) (b : Int), cutR (s * t) (e * t) (b * t) (scR t rs) = scR t (cutR s e b rs)
  | [], _ => rfl
  | r :: u, b => by
    have ih := cut_sc (s := s) (e := e) ht u (b + r.2)
    show pieceR (b * t) (s * t) (e * t) (r.1, r.2 * t) ++ cutR (s * t) (e * t) (b * t + r.2 * t) (scR t u) = scR t (pieceR b s e r ++ cutR s e (b + r.2) u)
    rw [← Int.add_mul, ih, piece_sc ht]
    unfold scR
    rw [List.map_append]
theorem step_sc {st : Option Run} {k : Str} {c t : Int} (ht : 0 < t) : stepR (scO t st) k (c * t) = scO t (stepR st k c) := by
  cases st with
  | none => rfl
  | some r =>
    show stepR (some (r.1, r.2 * t)) k (c * t) = _
    by_cases e : r.1 = k
    · rw [step_same (r := (r.1, r.2 * t)) e, step_same e]
      show some (k, r.2 * t + c * t) = some (k, (r.2 + c) * t)
      rw [Int.add_mul]
    · rw [step_other (r := (r.1, r.2 * t)) e, step_other e]
      show (if 0 < r.2 * t - c * t then some (r.1, r.2 * t - c * t) else if r.2 * t - c * t = 0 then none else some (k, -(r.2 * t - c * t))) = _
      rw [← Int.sub_mul]
      by_cases h : 0 < r.2 - c
      · rw [if_pos h, if_pos ((pos_sc ht).mpr h)]
        rfl
      · rw [if_neg h, if_neg fun z => h ((pos_sc ht).mp z)]
        by_cases h2 : r.2 - c = 0
        · rw [if_pos h2, h2, Int.zero_mul, if_pos rfl]
          rfl
        · have h3 : (r.2 - c) * t ≠ 0 := Int.mul_ne_zero h2 (by omega)
          rw [if_neg h2, if_neg h3]
          show some (k, -((r.2 - c) * t)) = some (k, -(r.2 - c) * t)
          rw [Int.neg_mul]
theorem st_sc {t : Int} (ht : 0 < t) : ∀ (rs : List Run) (st : Option Run), stR (scR t rs) (scO t st) = scO t (stR rs st)
  | [], _ => rfl
  | r :: u, st => by
    show stR (scR t u) (stepR (scO t st) r.1 (r.2 * t)) = scO t (stR u (stepR st r.1 r.2))
    rw [step_sc ht, st_sc ht u]
theorem len_sc {t : Int} : ∀ (rs : List Run), lenR (scR t rs) = lenR rs * t
  | [] => by
    show (0 : Int) = 0 * t
    rw [Int.zero_mul]
  | r :: u => by
    show lenR ((r.1, r.2 * t) :: scR t u) = _
    rw [lenR_cons, lenR_cons, len_sc u, Int.add_mul]
/-- the multiplied state at a multiplied moment -/
theorem whole_sc {t : Int} {rs : List Run} {st : Option Run} {p : Nat} (ht : 0 < t) (h : PosO st) (k : ∀ r ∈ rs, 1 ≤ r.2) :
    stR (cutR 0 ((p : Int) * t) 0 (scR t rs)) (scO t st) = scO t (toldR (plA (w0R st) 0 ((itR rs).take p))) := by
  have e := cut_sc (s := 0) (e := (p : Int)) ht rs 0
  rw [Int.zero_mul] at e
  rw [e, st_sc ht, told_plA _ _ _ (uni_w0 st), told_w0 h, st_items _ _ h cutR_pos, cut_items _ _ _ (Int.le_refl _) k, Int.sub_zero, Int.toNat_natCast]
end UP

set_option Elab.async false
set_option linter.all false
set_option maxRecDepth 100000
set_option maxHeartbeats 4000000
namespace UP
open PySem PySem.Spec PyProof.Rows L2
theorem room70 {A : Around} {k : Nat} (hr : Room k A) : A.units + 70 < cLine := by
  have := hr.un
  omega
theorem call_list_ofK {X : Cx} {K : PySem.W.Frag} (h : X.K = K) : CallR X (.type "list") (fun xs H Q => ∃ p ys, xs = [.ref p] ∧ (SqL K H p ys ∨ SqT K H p ys) ∧ ∀ l, H l = none → Q (.ref l) (upd H l (.lst ys))) := by
  subst h
  exact call_list_of
/-! ### data that a repr takes -/
structure Nice (w n : Nat) (d : PyData) : Prop where
  can : d.canLay0 = true
  dep : d.depth ≤ n
  sho : d.showable = true
  lea : d.leavesShort 100 = true
  wei : d.weight ≤ w
theorem Nice.mono {w w' n n' : Nat} {d : PyData} (h : Nice w n d) (h1 : w ≤ w') (h2 : n ≤ n') : Nice w' n' d := ⟨h.can, Nat.le_trans h.dep h2, h.sho, h.lea, Nat.le_trans h.wei h1⟩
theorem Nice.fits {w n : Nat} {d : PyData} (h : Nice w n d) (hw : w ≤ 150000) (hn : n ≤ 64) : d.showable = true ∧ SeqAt.shaped d = true ∧ d.shown.length ≤ sizeLine := by
  refine ⟨h.sho, ?_, ?_⟩
  · unfold SeqAt.shaped
    rw [h.can]
    have := h.dep
    exact decide_eq_true (by omega)
  · have h1 := PyData.shown_le 100 (by decide) d h.lea
    have h2 := h.wei
    have h3 : d.shown.length ≤ 16000000 := by omega
    exact Nat.le_trans h3 (by decide)
theorem nice_none : Nice 0 0 .none := ⟨rfl, Nat.le_refl _, rfl, rfl, Nat.le_refl _⟩
theorem nice_str {s : Str} (h : KindOk s) : Nice 8 0 (.str s) := by
  refine ⟨?_, Nat.le_refl _, rfl, ?_, h.2.1⟩
  · rw [PyData.canLay0]
    exact h.str
  · rw [PyData.leavesShort, List.all_eq_true]
    intro c hc
    have := h.2.2 c hc
    exact decide_eq_true (by omega)
theorem nice_int {i : Int} (h : i.natAbs < 10 ^ 60) : Nice 201 0 (.int i) := by
  have h2 : i.natAbs < 2 ^ 200 := Nat.lt_of_lt_of_le h (by decide)
  have h3 : i.natAbs.log2 < 200 := by
    by_cases z : i.natAbs = 0
    · rw [z]
      decide
    · exact (Nat.log2_lt z).mpr h2
  refine ⟨by rw [PyData.canLay0], Nat.le_refl _, ?_, ?_, ?_⟩
  · rw [PyData.showable]
    exact decide_eq_true (by omega)
  · rw [PyData.leavesShort]
    refine decide_eq_true ?_
    have e := int_text_length_le10 (k := 60) (by decide) h
    show (Str.ofString (toString i)).length ≤ 100
    rw [PySem.ofString_length]
    omega
  · rw [PyData.weight]
    split <;> omega
theorem nice_items {w n : Nat} : ∀ {ds : List PyData}, (∀ d ∈ ds, Nice w n d) → PyData.canLayAll0 ds = true ∧ PyData.depthAll ds ≤ n ∧ PyData.showableAll ds = true ∧ PyData.leavesShortAll 100 ds = true ∧ PyData.weightAll ds ≤ (w + 1) * ds.length
  | [], _ => ⟨rfl, Nat.zero_le _, rfl, rfl, Nat.zero_le _⟩
  | d :: t, h => by
    have h1 := h d (List.mem_cons_self ..)
    obtain ⟨a, b, c, e, f⟩ := nice_items (ds := t) fun x hx => h x (List.mem_cons_of_mem _ hx)
    refine ⟨?_, ?_, ?_, ?_, ?_⟩
    · rw [PyData.canLayAll0, h1.can, a]
      rfl
    · rw [PyData.depthAll]
      exact Nat.max_le.mpr ⟨h1.dep, b⟩
    · rw [PyData.showableAll, h1.sho, c]
      rfl
    · rw [PyData.leavesShortAll, h1.lea, e]
      rfl
    · have h2 := h1.wei
      rw [PyData.weightAll, List.length_cons, Nat.mul_succ]
      omega
theorem nice_list {w n : Nat} {ds : List PyData} (h : ∀ d ∈ ds, Nice w n d) : Nice ((w + 1) * ds.length) (n + 1) (.list ds) := by
  obtain ⟨a, b, c, e, f⟩ := nice_items h
  exact ⟨by rw [PyData.canLay0]; exact a, by rw [PyData.depth]; omega, by rw [PyData.showable]; exact c, by rw [PyData.leavesShort]; exact e, by rw [PyData.weight]; exact f⟩
theorem nice_tup {w n : Nat} {ds : List PyData} (h : ∀ d ∈ ds, Nice w n d) : Nice ((w + 1) * ds.length) (n + 1) (.tuple ds) := by
  obtain ⟨a, b, c, e, f⟩ := nice_items h
  exact ⟨by rw [PyData.canLay0]; exact a, by rw [PyData.depth]; omega, by rw [PyData.showable]; exact c, by rw [PyData.leavesShort]; exact e, by rw [PyData.weight]; exact f⟩
/-- v stands for d at H and at every heap that keeps H -/
def DpS (K : PySem.W.Frag) (H : Hp) (v : V) (d : PyData) : Prop := ∀ H', Same H H' → Dp K H' v d
theorem DpS.same {K : PySem.W.Frag} {H H' : Hp} {v : V} {d : PyData} (s : Same H H') (h : DpS K H v d) : DpS K H' v d := fun H2 s2 => h H2 (s.trans s2)
theorem dps_all {K : PySem.W.Frag} {H : Hp} {F : PyData → Prop} : ∀ {xs : List V}, (∀ x ∈ xs, ∃ d, DpS K H x d ∧ F d) → ∃ ds, (∀ H', Same H H' → DpAll K H' xs ds) ∧ ds.length = xs.length ∧ ∀ d ∈ ds, F d
  | [], _ => ⟨[], fun _ _ => .nil, rfl, fun d h => by cases h⟩
  | x :: t, h => by
    obtain ⟨d, h1, h2⟩ := h x (List.mem_cons_self ..)
    obtain ⟨ds, a, b, c⟩ := dps_all (xs := t) fun y hy => h y (List.mem_cons_of_mem _ hy)
    refine ⟨d :: ds, fun H' s => .cons (h1 H' s) (a H' s), congrArg Nat.succ b, fun z hz => ?_⟩
    rcases List.mem_cons.mp hz with e | e
    · rw [e]
      exact h2
    · exact c z e
theorem dps_seq {K : PySem.W.Frag} {H : Hp} {a : Addr} {xs : List V} {w n : Nat} (hx : Sq2 H a xs) (h : ∀ x ∈ xs, ∃ d, DpS K H x d ∧ Nice w n d) : ∃ d, DpS K H (.ref a) d ∧ Nice ((w + 1) * xs.length) (n + 1) d := by
  obtain ⟨ds, h1, h2, h3⟩ := dps_all h
  rcases hx with z | z
  · exact ⟨.list ds, fun H' s => .lst (.of (s _ _ z)) (h1 H' s), by rw [← h2]; exact nice_list h3⟩
  · exact ⟨.tuple ds, fun H' s => .tup (.of (s _ _ z)) (h1 H' s), by rw [← h2]; exact nice_tup h3⟩
theorem dps_run {K : PySem.W.Frag} {H : Hp} {v : V} {r : Run} (h : RunG H v r) (k : KindOk r.1) (c : r.2.natAbs < 10 ^ 60) : ∃ d, DpS K H v d ∧ Nice 404 1 d := by
  obtain ⟨t, rfl, h⟩ := h
  have := dps_seq (K := K) (w := 201) (n := 0) h fun x hx => by
    rcases List.mem_cons.mp hx with e | e
    · rw [e]
      exact ⟨.str r.1, fun _ _ => .str _, (nice_str k).mono (by decide) (Nat.le_refl _)⟩
    · rw [List.mem_singleton.mp e]
      exact ⟨.int r.2, fun _ _ => .int _, nice_int c⟩
  exact this
theorem dps_runs {K : PySem.W.Frag} {H : Hp} {v : V} {rs : List Run} (h : RunsG H v rs) (k : ∀ r ∈ rs, KindOk r.1 ∧ r.2.natAbs < 10 ^ 60) (l : rs.length ≤ 100) : ∃ d, DpS K H v d ∧ Nice 41000 2 d := by
  obtain ⟨a, xs, rfl, hx, hp⟩ := h
  have lx : xs.length = rs.length := Paired.len hp
  obtain ⟨d, h1, h2⟩ := dps_seq (K := K) (w := 404) (n := 1) hx fun x hx => by
    obtain ⟨i, hi, e⟩ := List.mem_iff_getElem.mp hx
    obtain ⟨r, er, hr⟩ := Paired.at hp (List.getElem?_eq_getElem hi)
    rw [e] at hr
    have := k r (List.mem_of_getElem? er)
    exact dps_run hr this.1 this.2
  exact ⟨d, h1, h2.mono (by rw [lx]; omega) (Nat.le_refl _)⟩
theorem dps_st {K : PySem.W.Frag} {H : Hp} {v : V} {st : Option Run} (h : StG H v st) (k : ∀ r, st = some r → KindOk r.1 ∧ r.2.natAbs < 10 ^ 60) : ∃ d, DpS K H v d ∧ Nice 41000 2 d := by
  cases st with
  | none =>
    cases h
    exact ⟨.none, fun _ _ => .non, nice_none.mono (by decide) (by decide)⟩
  | some r =>
    obtain ⟨d, h1, h2⟩ := dps_run (K := K) h (k r rfl).1 (k r rfl).2
    exact ⟨d, h1, h2.mono (by decide) (by decide)⟩
theorem dps_two {K : PySem.W.Frag} {H : Hp} {a : Addr} {x y : V} (h : H a = some (.lst [x, y])) (hx : ∃ d, DpS K H x d ∧ Nice 41000 2 d) (hy : ∃ d, DpS K H y d ∧ Nice 41000 2 d) : ∃ d, DpS K H (.ref a) d ∧ Nice 82002 3 d := by
  have := dps_seq (K := K) (a := a) (xs := [x, y]) (w := 41000) (n := 2) (.inl h) fun z hz => by
    rcases List.mem_cons.mp hz with e | e
    · rw [e]
      exact hx
    · rw [List.mem_singleton.mp e]
      exact hy
  exact this
/-! ### dressed and undressed -/
def dP (r : Run) : PyData := .list [.str r.1, .int r.2]
def dSq (rs : List Run) : PyData := .list (rs.map dP)
def dSt : Option Run → PyData
  | none => .none
  | some r => dP r
theorem sim_pair {N : Addr → Prop} {H : Hp} {n : Nat} (r : Run) : Paired (Sim N H n) [V.str r.1, V.int r.2] [PyData.str r.1, PyData.int r.2] := .cons (Sim.dsc (.inr (.inr (.inr ⟨_, rfl, rfl⟩)))) (.cons (Sim.dsc (.inr (.inr (.inl ⟨_, rfl, rfl⟩)))) .nil)
theorem sim_run {H : Hp} {sp : Addr} {v : V} {r : Run} {n : Nat} (z : Spr H sp) (h : RunV H v r) : Sim (· ≠ sp) H (n + 1) v (dP r) := by
  obtain ⟨t, rfl, h⟩ := h
  obtain ⟨_, _, _, hs, _⟩ := z
  exact .inr ⟨t, _, _, rfl, ne_of h hs (by intro q; cases q), .inr h, rfl, sim_pair r, Nat.le_of_ble_eq_true rfl⟩
theorem sim_seq {H : Hp} {sp a : Addr} {rs : List Run} (z : Spr H sp) (h : Runs H a rs) (l : rs.length ≤ 1000) : Sim (· ≠ sp) H 2 (.ref a) (dSq rs) := by
  have na := Runs.ne z h
  obtain ⟨xs, hx, hp⟩ := h
  refine .inr ⟨a, xs, _, rfl, na, .inl hx, rfl, ?_, by rw [List.length_map]; exact l⟩
  have gen : ∀ {xs : List V} {rs : List Run}, Paired (RunV H) xs rs → Paired (Sim (· ≠ sp) H 1) xs (rs.map dP) := by
    intro xs rs h
    induction h with
    | nil => exact .nil
    | cons h _ ih => exact .cons (sim_run z h) ih
  exact gen hp
theorem sim_st {H : Hp} {sp : Addr} {v : V} {st : Option Run} (z : Spr H sp) (h : StV H v st) : Sim (· ≠ sp) H 2 v (dSt st) := by
  cases st with
  | none =>
    cases h
    exact .inl (.inl ⟨rfl, rfl⟩)
  | some r => exact sim_run z h
theorem sim_one {N : Addr → Prop} {H : Hp} {n : Nat} {v : V} {r : Run} (h : Sim N H (n + 1) v (dP r)) : RunG H v r := by
  rcases h with h | ⟨a, xs, ds, rfl, _, hx, e, p, _⟩
  · exact (dsc_lst h).elim
  · cases e
    have scal : ∀ {m : Nat} {x : V} {s : Str}, Sim N H m x (.str s) → x = .str s := by
      intro m x s h
      have h : Dsc x (.str s) := by
        cases m with
        | zero => exact h
        | succ m =>
          rcases h with h | ⟨_, _, _, _, _, _, e, _⟩
          · exact h
          · cases e
      rcases h with ⟨_, e⟩ | ⟨_, _, e⟩ | ⟨_, _, e⟩ | ⟨y, e1, e⟩ <;> cases e
      exact e1
    have scai : ∀ {m : Nat} {x : V} {s : Int}, Sim N H m x (.int s) → x = .int s := by
      intro m x s h
      have h : Dsc x (.int s) := by
        cases m with
        | zero => exact h
        | succ m =>
          rcases h with h | ⟨_, _, _, _, _, _, e, _⟩
          · exact h
          · cases e
      rcases h with ⟨_, e⟩ | ⟨_, _, e⟩ | ⟨y, e1, e⟩ | ⟨_, _, e⟩ <;> cases e
      exact e1
    cases p with
    | cons h1 p1 =>
      cases p1 with
      | cons h2 p2 =>
        cases p2
        rw [scal h1, scai h2] at hx
        exact ⟨a, rfl, hx⟩
theorem sim_all {N : Addr → Prop} {H : Hp} : ∀ (rs : List Run) (xs : List V), Paired (Sim N H 1) xs (rs.map dP) → Paired (RunG H) xs rs
  | [], xs, h => by
    cases h
    exact .nil
  | r :: t, xs, h => by
    cases h with
    | cons h1 h2 => exact .cons (sim_one h1) (sim_all t _ h2)
theorem sim_runs {N : Addr → Prop} {H : Hp} {v : V} {rs : List Run} (h : Sim N H 2 v (dSq rs)) : RunsG H v rs := by
  rcases h with h | ⟨a, xs, ds, rfl, _, hx, e, p, _⟩
  · exact (dsc_lst h).elim
  · cases e
    refine ⟨a, xs, rfl, hx, ?_⟩
    exact sim_all rs xs p
theorem sim_stg {N : Addr → Prop} {H : Hp} {v : V} {st : Option Run} (h : Sim N H 2 v (dSt st)) : StG H v st := by
  cases st with
  | none =>
    rcases h with h | ⟨_, _, _, _, _, _, e, _⟩
    · rcases h with ⟨e, _⟩ | ⟨_, _, e⟩ | ⟨_, _, e⟩ | ⟨_, _, e⟩
      · exact e
      all_goals cases e
    · cases e
  | some r => exact sim_one h
/-! ### one by one -/
theorem at_moment {rs : List Run} {st : Option Run} {m : Nat} (h : PosO st) (k : ∀ r ∈ rs, 1 ≤ r.2) : stR (cutR 0 (m : Int) 0 rs) st = toldR (plA (w0R st) 0 ((itR rs).take m)) := by
  rw [told_plA _ _ _ (uni_w0 st), told_w0 h, st_items _ _ h cutR_pos, cut_items _ _ _ (Int.le_refl _) k, Int.sub_zero, Int.toNat_natCast]
theorem at_end {rs : List Run} {st : Option Run} (h : PosO st) (k : ∀ r ∈ rs, 1 ≤ r.2) : stR rs st = toldR (plA (w0R st) 0 (itR rs)) := by
  rw [told_plA _ _ _ (uni_w0 st), told_w0 h, st_items _ _ h k]
theorem plMs_get (ws : List Run) (ks : List Str) {n : Nat} (h : n ≤ ks.length) : (plMs ws ks)[n]? = some (plA ws 0 (ks.take n)) := by
  unfold plMs
  rw [List.getElem?_map, List.getElem?_range (by omega)]
  rfl
def dO : Option Run → PyData
  | none => .none
  | some r => dRun r
theorem dt_st {H : Hp} {v : V} {st : Option Run} {n : Nat} (h : StV H v st) : Dt H (n + 1) v (dO st) := by
  cases st with
  | none =>
    cases h
    exact .inl (.inl ⟨rfl, rfl⟩)
  | some r =>
    obtain ⟨t, rfl, h⟩ := h
    refine .inr (.inr ⟨t, _, _, rfl, h, rfl, .cons ?_ (.cons ?_ .nil), Nat.le_of_ble_eq_true rfl⟩)
    · cases n with
      | zero => exact .inr (.inr (.inr ⟨_, rfl, rfl⟩))
      | succ m => exact .inl (.inr (.inr (.inr ⟨_, rfl, rfl⟩)))
    · cases n with
      | zero => exact .inr (.inr (.inl ⟨_, rfl, rfl⟩))
      | succ m => exact .inl (.inr (.inr (.inl ⟨_, rfl, rfl⟩)))
theorem w0_len {st : Option Run} (h : ∀ r, st = some r → r.2 ≤ 1000) : (w0R st).length ≤ 1000 := by
  cases st with
  | none => exact Nat.zero_le _
  | some r =>
    have := h r rfl
    show (List.replicate r.2.toNat (r.1, (-1 : Int))).length ≤ 1000
    rw [List.length_replicate]
    omega
theorem w0_kinds {st : Option Run} (h : StOk st) : ∀ r ∈ w0R st, KindOk r.1 := by
  cases st with
  | none => intro r h; cases h
  | some x =>
    intro r hr
    rw [List.eq_of_mem_replicate hr]
    exact (h x rfl).1
theorem it_kinds {rs : List Run} (h : ∀ r ∈ rs, KindOk r.1) : ∀ k ∈ itR rs, KindOk k := by
  intro k hk
  obtain ⟨r, h1, h2⟩ := List.mem_flatMap.mp hk
  rw [List.eq_of_mem_replicate h2]
  exact h r h1
end UP

set_option Elab.async false
set_option linter.all false
set_option maxRecDepth 100000
set_option maxHeartbeats 4000000
namespace UP
open PySem PySem.Spec PyProof.Rows L2
abbrev Rg := Int × Int
/-! ### ranges without their first positions -/
def rmR (p : Rg) (n : Int) : Int := if p.2 - p.1 + 1 < n then p.2 - p.1 + 1 else n
def wfP (p : Rg) (n : Int) : List Rg := if p.1 + rmR p n ≤ p.2 then [(p.1 + rmR p n, p.2)] else []
def wfR : List Rg → Int → List Rg
  | [], _ => []
  | p :: t, n => wfP p n ++ wfR t (n - rmR p n)
/-- the number that is left to be removed behind some ranges -/
def wfN : List Rg → Int → Int
  | [], n => n
  | p :: t, n => wfN t (n - rmR p n)
theorem wfN_snoc : ∀ (l : List Rg) (p : Rg) (n : Int), wfN (l ++ [p]) n = wfN l n - rmR p (wfN l n)
  | [], _, _ => rfl
  | x :: t, p, n => wfN_snoc t p (n - rmR x n)
theorem wfR_snoc : ∀ (l : List Rg) (p : Rg) (n : Int), wfR (l ++ [p]) n = wfR l n ++ wfP p (wfN l n)
  | [], p, n => by
    show wfP p n ++ [] = [] ++ wfP p n
    rw [List.append_nil, List.nil_append]
  | x :: t, p, n => by
    show wfP x n ++ wfR (t ++ [p]) (n - rmR x n) = (wfP x n ++ wfR t (n - rmR x n)) ++ wfP p (wfN t (n - rmR x n))
    rw [wfR_snoc t, List.append_assoc]
def adP (st : Option Run) (b : Int) (r : Run) : List Rg := if leavR st r.1 r.2 < r.2 then [(b + leavR st r.1 r.2, b + r.2 - 1)] else []
def waR : List Run → Option Run → Int → List Rg → List Rg
  | [], _, _, R => R
  | r :: t, st, b, R => waR t (stepR st r.1 r.2) (b + r.2) (wfR R (leavR st r.1 r.2) ++ adP st b r)
theorem waR_snoc : ∀ (l : List Run) (r : Run) (st : Option Run) (b : Int) (R : List Rg), waR (l ++ [r]) st b R = wfR (waR l st b R) (leavR (stR l st) r.1 r.2) ++ adP (stR l st) (b + lenR l) r
  | [], r, st, b, R => by
    show wfR R (leavR st r.1 r.2) ++ adP st b r = wfR R (leavR st r.1 r.2) ++ adP st (b + lenR []) r
    rw [lenR_nil, Int.add_zero]
  | x :: t, r, st, b, R => by
    show waR (t ++ [r]) (stepR st x.1 x.2) (b + x.2) (wfR R (leavR st x.1 x.2) ++ adP st b x) = wfR (waR t (stepR st x.1 x.2) (b + x.2) (wfR R (leavR st x.1 x.2) ++ adP st b x)) (leavR (stR (x :: t) st) r.1 r.2) ++ adP (stR (x :: t) st) (b + lenR (x :: t)) r
    rw [waR_snoc t, stR_cons, lenR_cons, Int.add_assoc]
/-! ### all counts multiplied -/
def scP (t : Int) (R : List Rg) : List Rg := R.map fun p => (p.1 * t, p.2 * t + t - 1)
theorem le_sc {a b t : Int} (ht : 0 < t) : a * t ≤ b * t ↔ a ≤ b := by
  have := lt_sc (a := b) (b := a) ht
  exact ⟨fun z => by
    by_cases q : b < a
    · have := this.mpr q
      omega
    · omega, fun z => Int.mul_le_mul_of_nonneg_right z (by omega)⟩
theorem last_sc {a b t : Int} (ht : 0 < t) : a * t ≤ b * t + t - 1 ↔ a ≤ b := by
  have e : (b + 1) * t = b * t + t := by rw [Int.add_mul, Int.one_mul]
  have := lt_sc (a := a) (b := b + 1) ht
  rw [e] at this
  exact ⟨fun z => by have := this.mp (by omega); omega, fun z => by have := this.mpr (by omega); omega⟩
theorem rm_sc {p : Rg} {n t : Int} (ht : 0 < t) : rmR (p.1 * t, p.2 * t + t - 1) (n * t) = rmR p n * t := by
  unfold rmR
  have e : (p.2 * t + t - 1) - p.1 * t + 1 = (p.2 - p.1 + 1) * t := by
    rw [Int.add_mul, Int.sub_mul, Int.one_mul]
    omega
  show (if (p.2 * t + t - 1) - p.1 * t + 1 < n * t then (p.2 * t + t - 1) - p.1 * t + 1 else n * t) = _
  rw [e]
  by_cases g : p.2 - p.1 + 1 < n
  · rw [if_pos g, if_pos ((lt_sc ht).mpr g)]
  · rw [if_neg g, if_neg fun z => g ((lt_sc ht).mp z)]
theorem wfP_sc {p : Rg} {n t : Int} (ht : 0 < t) : wfP (p.1 * t, p.2 * t + t - 1) (n * t) = scP t (wfP p n) := by
  unfold wfP
  rw [rm_sc ht]
  show (if p.1 * t + rmR p n * t ≤ p.2 * t + t - 1 then [(p.1 * t + rmR p n * t, p.2 * t + t - 1)] else []) = _
  rw [← Int.add_mul]
  by_cases g : p.1 + rmR p n ≤ p.2
  · rw [if_pos g, if_pos ((last_sc ht).mpr g)]
    rfl
  · rw [if_neg g, if_neg fun z => g ((last_sc ht).mp z)]
    rfl
theorem wfR_sc {t : Int} (ht : 0 < t) : ∀ (R : List Rg) (n : Int), wfR (scP t R) (n * t) = scP t (wfR R n)
  | [], _ => rfl
  | p :: u, n => by
    show wfP (p.1 * t, p.2 * t + t - 1) (n * t) ++ wfR (scP t u) (n * t - rmR (p.1 * t, p.2 * t + t - 1) (n * t)) = scP t (wfP p n ++ wfR u (n - rmR p n))
    rw [wfP_sc ht, rm_sc ht, ← Int.sub_mul, wfR_sc ht u]
    unfold scP
    rw [List.map_append]
theorem leav_sc {st : Option Run} {k : Str} {c t : Int} (ht : 0 < t) : leavR (scO t st) k (c * t) = leavR st k c * t := by
  cases st with
  | none =>
    show (0 : Int) = 0 * t
    rw [Int.zero_mul]
  | some x =>
    show (if x.1 = k then 0 else if c * t < x.2 * t then c * t else x.2 * t) = (if x.1 = k then 0 else if c < x.2 then c else x.2) * t
    by_cases e : x.1 = k
    · rw [if_pos e, if_pos e, Int.zero_mul]
    · rw [if_neg e, if_neg e]
      by_cases g : c < x.2
      · rw [if_pos g, if_pos ((lt_sc ht).mpr g)]
      · rw [if_neg g, if_neg fun z => g ((lt_sc ht).mp z)]
theorem adP_sc {st : Option Run} {b t : Int} {r : Run} (ht : 0 < t) : adP (scO t st) (b * t) (r.1, r.2 * t) = scP t (adP st b r) := by
  unfold adP
  rw [leav_sc ht]
  by_cases g : leavR st r.1 r.2 < r.2
  · rw [if_pos g, if_pos ((lt_sc ht).mpr g)]
    show [(b * t + leavR st r.1 r.2 * t, b * t + r.2 * t - 1)] = [((b + leavR st r.1 r.2) * t, (b + r.2 - 1) * t + t - 1)]
    rw [← Int.add_mul, ← Int.add_mul, Int.sub_mul, Int.one_mul]
    congr 2
    omega
  · rw [if_neg g, if_neg fun z => g ((lt_sc ht).mp z)]
    rfl
theorem waR_sc {t : Int} (ht : 0 < t) : ∀ (rs : List Run) (st : Option Run) (b : Int) (R : List Rg), waR (scR t rs) (scO t st) (b * t) (scP t R) = scP t (waR rs st b R)
  | [], _, _, _ => rfl
  | r :: u, st, b, R => by
    show waR (scR t u) (stepR (scO t st) r.1 (r.2 * t)) (b * t + r.2 * t) (wfR (scP t R) (leavR (scO t st) r.1 (r.2 * t)) ++ adP (scO t st) (b * t) (r.1, r.2 * t)) = scP t (waR u (stepR st r.1 r.2) (b + r.2) (wfR R (leavR st r.1 r.2) ++ adP st b r))
    rw [step_sc ht, ← Int.add_mul, leav_sc ht, wfR_sc ht, adP_sc ht]
    have e : scP t (wfR R (leavR st r.1 r.2)) ++ scP t (adP st b r) = scP t (wfR R (leavR st r.1 r.2) ++ adP st b r) := by
      unfold scP
      rw [List.map_append]
    rw [e, waR_sc ht u]
/-! ### the ranges of positions -/
def rgS (t : Int) (F : List Rg) (p : Int) : List Rg := match F.getLast? with
  | none => F ++ [(p * t, p * t + t - 1)]
  | some l => if l.2 = p * t - 1 then F.dropLast ++ [(l.1, p * t + t - 1)] else F ++ [(p * t, p * t + t - 1)]
def rgR (t : Int) (ps : List Int) : List Rg := ps.foldl (rgS t) []
theorem rgS_sc {t : Int} (ht : 0 < t) (F : List Rg) (p : Int) : rgS t (scP t F) p = scP t (rgS 1 F p) := by
  unfold rgS
  have eg : (scP t F).getLast? = F.getLast?.map fun p => (p.1 * t, p.2 * t + t - 1) := by
    unfold scP
    rw [List.getLast?_map]
  rw [eg]
  cases F.getLast? with
  | none =>
    show scP t F ++ [(p * t, p * t + t - 1)] = scP t (F ++ [(p * 1, p * 1 + 1 - 1)])
    unfold scP
    rw [List.map_append, Int.mul_one, show p + 1 - 1 = p by omega]
    rfl
  | some l =>
    show (if l.2 * t + t - 1 = p * t - 1 then (scP t F).dropLast ++ [(l.1 * t, p * t + t - 1)] else scP t F ++ [(p * t, p * t + t - 1)]) = scP t (if l.2 = p * 1 - 1 then F.dropLast ++ [(l.1, p * 1 + 1 - 1)] else F ++ [(p * 1, p * 1 + 1 - 1)])
    rw [Int.mul_one, show p + 1 - 1 = p by omega]
    have iff : l.2 * t + t - 1 = p * t - 1 ↔ l.2 = p - 1 := by
      have e : (l.2 + 1) * t = l.2 * t + t := by rw [Int.add_mul, Int.one_mul]
      constructor
      · intro z
        have a := (le_sc (a := l.2 + 1) (b := p) ht).mp (by omega)
        have b := (le_sc (a := p) (b := l.2 + 1) ht).mp (by omega)
        omega
      · intro z
        have : (l.2 + 1) * t = p * t := by rw [show l.2 + 1 = p by omega]
        omega
    by_cases g : l.2 = p - 1
    · rw [if_pos g, if_pos (iff.mpr g)]
      unfold scP
      rw [List.map_append, List.map_dropLast]
      rfl
    · rw [if_neg g, if_neg fun z => g (iff.mp z)]
      unfold scP
      rw [List.map_append]
      rfl
theorem rgR_sc {t : Int} (ht : 0 < t) (ps : List Int) : rgR t ps = scP t (rgR 1 ps) := by
  unfold rgR
  have gen : ∀ (ps : List Int) (F : List Rg), ps.foldl (rgS t) (scP t F) = scP t (ps.foldl (rgS 1) F) := by
    intro ps
    induction ps with
    | nil => intro F; rfl
    | cons p u ih =>
      intro F
      show u.foldl (rgS t) (rgS t (scP t F) p) = scP t (u.foldl (rgS 1) (rgS 1 F p))
      rw [rgS_sc ht, ih]
  exact gen ps []
/-! ### positions -/
def posL (a : Int) : Nat → List Int
  | 0 => []
  | n + 1 => a :: posL (a + 1) n
theorem posL_app : ∀ (m n : Nat) (a : Int), posL a (m + n) = posL a m ++ posL (a + (m : Int)) n
  | 0, n, a => by
    rw [Nat.zero_add, show a + ((0 : Nat) : Int) = a by omega]
    rfl
  | m + 1, n, a => by
    rw [show m + 1 + n = (m + n) + 1 by omega]
    show a :: posL (a + 1) (m + n) = a :: (posL (a + 1) m ++ posL (a + ((m + 1 : Nat) : Int)) n)
    rw [posL_app m n, show a + 1 + (m : Int) = a + ((m + 1 : Nat) : Int) by omega]
theorem posL_len : ∀ (n : Nat) (a : Int), (posL a n).length = n
  | 0, _ => rfl
  | n + 1, a => congrArg Nat.succ (posL_len n _)
theorem posL_drop (a : Int) (n k : Nat) (h : k ≤ n) : (posL a n).drop k = posL (a + (k : Int)) (n - k) := by
  have e : n = k + (n - k) := by omega
  rw [e, posL_app, List.drop_append_of_le_length (by rw [posL_len]; exact Nat.le_refl _), List.drop_of_length_le (by rw [posL_len]; exact Nat.le_refl _), List.nil_append, show k + (n - k) - k = n - k by omega]
def flP (p : Rg) : List Int := posL p.1 (p.2 - p.1 + 1).toNat
def flR (R : List Rg) : List Int := R.flatMap flP
theorem flR_cons (p : Rg) (t : List Rg) : flR (p :: t) = flP p ++ flR t := rfl
theorem flR_app (R S : List Rg) : flR (R ++ S) = flR R ++ flR S := List.flatMap_append ..
/-- ascending, with gaps, below b -/
def Gd : List Rg → Int → Prop
  | [], _ => True
  | p :: t, b => p.1 ≤ p.2 ∧ p.2 < b ∧ (∀ x, t.head? = some x → p.2 + 1 < x.1) ∧ Gd t b
theorem Gd.mono {b b' : Int} (h : b ≤ b') : ∀ {R : List Rg}, Gd R b → Gd R b'
  | [], _ => trivial
  | p :: t, g => ⟨g.1, by have := g.2.1; omega, g.2.2.1, Gd.mono h g.2.2.2⟩
theorem Gd.last {b : Int} : ∀ {R : List Rg}, Gd R b → ∀ l, R.getLast? = some l → l.2 < b
  | [], _, l, h => by cases h
  | [p], g, l, h => by
    have e : p = l := Option.some.inj h
    rw [← e]
    exact g.2.1
  | p :: q :: t, g, l, h => by
    rw [List.getLast?_cons_cons] at h
    exact Gd.last g.2.2.2 l h
theorem Gd.snoc {b : Int} {p : Rg} : ∀ {R : List Rg}, Gd R b → p.1 ≤ p.2 → p.2 < b → (∀ l, R.getLast? = some l → l.2 + 1 < p.1) → Gd (R ++ [p]) b
  | [], _, h1, h2, _ => ⟨h1, h2, (fun x h => by cases h), trivial⟩
  | [q], g, h1, h2, h3 => ⟨g.1, g.2.1, (fun x h => by have e : p = x := Option.some.inj h; rw [← e]; exact h3 q rfl), h1, h2, (fun x h => by cases h), trivial⟩
  | q :: r :: t, g, h1, h2, h3 => by
    have ih := Gd.snoc (R := r :: t) g.2.2.2 h1 h2 (fun l hl => h3 l (by rw [List.getLast?_cons_cons]; exact hl))
    exact ⟨g.1, g.2.1, (fun x h => g.2.2.1 x h), ih⟩
theorem rm_le {p : Rg} {n : Int} (h : p.1 ≤ p.2) (hn : 0 ≤ n) : 0 ≤ rmR p n ∧ rmR p n ≤ n ∧ rmR p n ≤ p.2 - p.1 + 1 ∧ (rmR p n < p.2 - p.1 + 1 → rmR p n = n) := by
  unfold rmR
  split <;> omega
theorem wf_zero {b : Int} : ∀ {R : List Rg}, Gd R b → wfR R 0 = R
  | [], _ => rfl
  | p :: t, g => by
    have h := rm_le (p := p) (n := 0) g.1 (Int.le_refl _)
    have e : rmR p 0 = 0 := by omega
    show wfP p 0 ++ wfR t (0 - rmR p 0) = p :: t
    unfold wfP
    rw [e, Int.sub_zero, Int.add_zero, if_pos g.1, wf_zero g.2.2.2]
    rfl
theorem wf_flat {b : Int} : ∀ {R : List Rg} {n : Int}, Gd R b → 0 ≤ n → flR (wfR R n) = (flR R).drop n.toNat
  | [], n, _, _ => by
    show ([] : List Int) = ([] : List Int).drop _
    rw [List.drop_nil]
  | p :: t, n, g, hn => by
    have g1 := g.1
    have h := rm_le (p := p) g1 hn
    have ih := wf_flat (n := n - rmR p n) g.2.2.2 (by omega)
    show flR (wfP p n ++ wfR t (n - rmR p n)) = (flP p ++ flR t).drop n.toNat
    rw [flR_app, ih, List.drop_append]
    have lp : (flP p).length = (p.2 - p.1 + 1).toNat := posL_len _ _
    rw [lp]
    by_cases c : p.1 + rmR p n ≤ p.2
    · have e : rmR p n = n := h.2.2.2 (by omega)
      have e1 : wfP p n = [(p.1 + rmR p n, p.2)] := if_pos c
      rw [e1, e, show n - n = 0 by omega, show n.toNat - (p.2 - p.1 + 1).toNat = 0 by omega]
      congr 1
      show posL (p.1 + n) (p.2 - (p.1 + n) + 1).toNat ++ [] = (posL p.1 (p.2 - p.1 + 1).toNat).drop n.toNat
      rw [List.append_nil, posL_drop _ _ _ (by omega), show (n.toNat : Int) = n by omega, show (p.2 - (p.1 + n) + 1).toNat = (p.2 - p.1 + 1).toNat - n.toNat by omega]
    · have e1 : wfP p n = [] := if_neg c
      rw [e1, show (n - rmR p n).toNat = n.toNat - (p.2 - p.1 + 1).toNat by omega]
      congr 1
      show [] = (posL p.1 (p.2 - p.1 + 1).toNat).drop n.toNat
      rw [List.drop_of_length_le (by rw [posL_len]; omega)]
theorem wf_good {b : Int} : ∀ {R : List Rg} {n : Int}, Gd R b → 0 ≤ n → Gd (wfR R n) b
  | [], _, _, _ => trivial
  | p :: t, n, g, hn => by
    have g1 := g.1
    have h := rm_le (p := p) g1 hn
    show Gd (wfP p n ++ wfR t (n - rmR p n)) b
    by_cases c : p.1 + rmR p n ≤ p.2
    · have e : rmR p n = n := h.2.2.2 (by omega)
      have e1 : wfP p n = [(p.1 + rmR p n, p.2)] := if_pos c
      rw [e1, show n - rmR p n = 0 by omega, wf_zero g.2.2.2]
      exact ⟨c, g.2.1, g.2.2.1, g.2.2.2⟩
    · have e1 : wfP p n = [] := if_neg c
      rw [e1]
      exact wf_good g.2.2.2 (by omega)
theorem wf_lastlt {b : Int} {R : List Rg} {n : Int} (g : Gd R b) (hn : 0 ≤ n) : ∀ l, (wfR R n).getLast? = some l → l.2 < b := fun l h => Gd.last (wf_good g hn) l h
/-! ### ranges of positions are the ranges -/
theorem rg_more : ∀ (k : Nat) (F : List Rg) (a q : Int), (posL (q + 1) k).foldl (rgS 1) (F ++ [(a, q)]) = F ++ [(a, q + (k : Int))]
  | 0, F, a, q => by
    rw [show q + ((0 : Nat) : Int) = q by omega]
    rfl
  | k + 1, F, a, q => by
    show (posL (q + 1 + 1) k).foldl (rgS 1) (rgS 1 (F ++ [(a, q)]) (q + 1)) = _
    have e : rgS 1 (F ++ [(a, q)]) (q + 1) = F ++ [(a, q + 1)] := by
      unfold rgS
      rw [List.getLast?_concat]
      show (if q = (q + 1) * 1 - 1 then (F ++ [(a, q)]).dropLast ++ [(a, (q + 1) * 1 + 1 - 1)] else _) = _
      rw [if_pos (by omega), List.dropLast_concat, Int.mul_one, show q + 1 + 1 - 1 = q + 1 by omega]
    rw [e, rg_more k F a (q + 1), show q + 1 + (k : Int) = q + ((k + 1 : Nat) : Int) by omega]
theorem rg_flat {b : Int} : ∀ (R : List Rg) (F : List Rg), Gd R b → (∀ l p, F.getLast? = some l → R.head? = some p → l.2 + 1 < p.1) → (flR R).foldl (rgS 1) F = F ++ R
  | [], F, _, _ => by
    rw [List.append_nil]
    rfl
  | p :: t, F, g, h => by
    have g1 := g.1
    obtain ⟨k, hk⟩ : ∃ k : Nat, (p.2 - p.1 + 1).toNat = k + 1 := ⟨(p.2 - p.1).toNat, by omega⟩
    have e0 : flP p = p.1 :: posL (p.1 + 1) k := by
      unfold flP
      rw [hk]
      rfl
    rw [flR_cons, List.foldl_append, e0]
    show (flR t).foldl (rgS 1) ((posL (p.1 + 1) k).foldl (rgS 1) (rgS 1 F p.1)) = F ++ p :: t
    have e1 : rgS 1 F p.1 = F ++ [(p.1, p.1)] := by
      unfold rgS
      cases e : F.getLast? with
      | none =>
        show F ++ [(p.1 * 1, p.1 * 1 + 1 - 1)] = _
        rw [Int.mul_one, show p.1 + 1 - 1 = p.1 by omega]
      | some l =>
        have := h l p e rfl
        show (if l.2 = p.1 * 1 - 1 then _ else F ++ [(p.1 * 1, p.1 * 1 + 1 - 1)]) = _
        rw [if_neg (by omega), Int.mul_one, show p.1 + 1 - 1 = p.1 by omega]
    rw [e1, rg_more, show p.1 + (k : Int) = p.2 by omega]
    have ep : (p.1, p.2) = p := rfl
    rw [ep, rg_flat t (F ++ [p]) g.2.2.2 (fun l q hl hq => by
      rw [List.getLast?_concat] at hl
      have e : p = l := Option.some.inj hl
      rw [← e]
      exact g.2.2.1 q hq), List.append_assoc]
    rfl
/-! ### positions that wait, run by run -/
def psW (ws : List Run) : List Int := ws.map (·.2)
theorem pl_same : ∀ (c : Nat) (ws : List Run) (n : Nat) (k : Str), (∀ r ∈ ws, r.1 = k) → psW (plA ws n (List.replicate c k)) = psW ws ++ posL (n : Int) c
  | 0, ws, n, k, _ => by
    show psW ws = psW ws ++ []
    rw [List.append_nil]
  | c + 1, ws, n, k, h => by
    have e : plS ws k n = ws ++ [(k, (n : Int))] := by
      cases ws with
      | nil => rfl
      | cons r t => exact if_pos (h r (List.mem_cons_self ..))
    show psW (plA (plS ws k n) (n + 1) (List.replicate c k)) = psW ws ++ ((n : Int) :: posL ((n : Int) + 1) c)
    rw [e, pl_same c _ (n + 1) k (fun r hr => by
      rcases List.mem_append.mp hr with z | z
      · exact h r z
      · rw [List.mem_singleton.mp z])]
    unfold psW
    rw [List.map_append, List.append_assoc]
    rfl
theorem pl_other : ∀ (c : Nat) (ws : List Run) (n : Nat) (k : Str), (∀ r ∈ ws, r.1 ≠ k) → psW (plA ws n (List.replicate c k)) = (psW ws).drop c ++ posL ((n : Int) + (ws.length : Int)) (c - ws.length)
  | 0, ws, n, k, _ => by
    show psW ws = (psW ws).drop 0 ++ posL _ (0 - ws.length)
    rw [Nat.zero_sub]
    show psW ws = psW ws ++ []
    rw [List.append_nil]
  | c + 1, [], n, k, _ => by
    have := pl_same (c + 1) [] n k (fun r h => by cases h)
    rw [this]
    show [] ++ posL (n : Int) (c + 1) = ([] : List Int).drop (c + 1) ++ posL ((n : Int) + 0) (c + 1 - 0)
    rw [List.drop_nil, Int.add_zero]
    rfl
  | c + 1, r :: t, n, k, h => by
    have e : plS (r :: t) k n = t := if_neg (h r (List.mem_cons_self ..))
    show psW (plA (plS (r :: t) k n) (n + 1) (List.replicate c k)) = (psW t).drop c ++ posL ((n : Int) + ((r :: t).length : Int)) (c + 1 - (r :: t).length)
    rw [e, pl_other c t (n + 1) k (fun x hx => h x (List.mem_cons_of_mem _ hx)), List.length_cons, show ((n + 1 : Nat) : Int) + (t.length : Int) = (n : Int) + ((t.length + 1 : Nat) : Int) by omega, show c + 1 - (t.length + 1) = c - t.length by omega]
end UP

set_option Elab.async false
set_option linter.all false
set_option maxRecDepth 100000
set_option maxHeartbeats 4000000
namespace UP
open PySem PySem.Spec PyProof.Rows L2
theorem plA_app : ∀ (l m : List Str) (ws : List Run) (n : Nat), plA ws n (l ++ m) = plA (plA ws n l) (n + l.length) m
  | [], m, ws, n => rfl
  | k :: t, m, ws, n => by
    show plA (plS ws k n) (n + 1) (t ++ m) = plA (plA (plS ws k n) (n + 1) t) (n + (k :: t).length) m
    rw [plA_app t m, List.length_cons, show n + 1 + t.length = n + (t.length + 1) by omega]
theorem uni_plA : ∀ (l : List Str) (ws : List Run) (n : Nat), Uni ws → Uni (plA ws n l)
  | [], _, _, h => h
  | k :: t, ws, n, h => uni_plA t _ _ (uni_plS h)
theorem told_len {ws : List Run} : numR (toldR ws) = (ws.length : Int) := by
  cases ws with
  | nil => rfl
  | cons r t => rfl
/-- one run -/
theorem one_run {ws : List Run} {R : List Rg} {n : Nat} {r : Run} (u : Uni ws) (fl : flR R = psW ws) (g : Gd R (n : Int)) (c1 : 1 ≤ r.2) (bd : ∀ l, R.getLast? = some l → l.2 = (n : Int) - 1 → ∀ x, toldR ws = some x → x.1 ≠ r.1) :
    flR (wfR R (leavR (toldR ws) r.1 r.2) ++ adP (toldR ws) (n : Int) r) = psW (plA ws n (List.replicate r.2.toNat r.1)) ∧ Gd (wfR R (leavR (toldR ws) r.1 r.2) ++ adP (toldR ws) (n : Int) r) ((n : Int) + r.2) ∧
    ∀ l, (wfR R (leavR (toldR ws) r.1 r.2) ++ adP (toldR ws) (n : Int) r).getLast? = some l → l.2 = (n : Int) + r.2 - 1 → ∀ x, toldR (plA ws n (List.replicate r.2.toNat r.1)) = some x → x.1 = r.1 := by
  obtain ⟨c, hc⟩ : ∃ c : Nat, r.2.toNat = c + 1 := ⟨r.2.toNat - 1, by omega⟩
  have er : ((c : Int) + 1) = r.2 := by omega
  have nn : PosO (toldR ws) := by
    intro x hx
    cases ws with
    | nil => cases hx
    | cons y t =>
      cases hx
      show 1 ≤ (((y :: t).length : Nat) : Int)
      rw [List.length_cons]
      omega
  have told' : toldR (plA ws n (List.replicate r.2.toNat r.1)) = stepR (toldR ws) r.1 r.2 := by
    rw [told_plA _ _ _ u, hc, it_step c _ _ nn, er]
  cases ws with
  | nil =>
    -- nobody waits
    have eR : R = [] := by
      cases R with
      | nil => rfl
      | cons p t =>
        have g1 := g.1
        have : flR (p :: t) = [] := fl
        rw [flR_cons] at this
        have l0 := congrArg List.length this
        rw [List.length_append, show (flP p).length = (p.2 - p.1 + 1).toNat from posL_len _ _] at l0
        have l0 : (p.2 - p.1 + 1).toNat + (flR t).length = 0 := l0
        omega
    subst eR
    have lv : leavR (toldR []) r.1 r.2 = 0 := rfl
    have ad : adP (toldR []) (n : Int) r = [((n : Int) + 0, (n : Int) + r.2 - 1)] := if_pos (by rw [lv]; omega)
    rw [lv, ad]
    refine ⟨?_, ⟨by show (n : Int) + 0 ≤ (n : Int) + r.2 - 1; omega, by show (n : Int) + r.2 - 1 < (n : Int) + r.2; omega, (fun x h => by cases h), trivial⟩, fun l _ _ x hx => ?_⟩
    · rw [pl_same r.2.toNat [] n r.1 (fun r h => by cases h)]
      show posL ((n : Int) + 0) ((n : Int) + r.2 - 1 - ((n : Int) + 0) + 1).toNat ++ [] = [] ++ posL (n : Int) r.2.toNat
      rw [List.append_nil, List.nil_append, Int.add_zero, show (n : Int) + r.2 - 1 - (n : Int) + 1 = r.2 by omega]
    · rw [told'] at hx
      cases hx
      rfl
  | cons y t =>
    by_cases e : y.1 = r.1
    · -- the same kind
      have all : ∀ x ∈ y :: t, x.1 = r.1 := fun x hx => (u x hx y (List.mem_cons_self ..)).trans e
      have lv : leavR (toldR (y :: t)) r.1 r.2 = 0 := if_pos e
      have ad : adP (toldR (y :: t)) (n : Int) r = [((n : Int) + 0, (n : Int) + r.2 - 1)] := by
        unfold adP
        rw [lv, if_pos (by omega)]
      rw [lv, ad, wf_zero g]
      refine ⟨?_, ?_, fun l _ _ x hx => ?_⟩
      · rw [flR_app, fl, pl_same r.2.toNat _ n r.1 all]
        congr 1
        show posL ((n : Int) + 0) ((n : Int) + r.2 - 1 - ((n : Int) + 0) + 1).toNat ++ [] = _
        rw [List.append_nil, Int.add_zero, show (n : Int) + r.2 - 1 - (n : Int) + 1 = r.2 by omega]
      · refine Gd.snoc (Gd.mono (by omega) g) (by show (n : Int) + 0 ≤ (n : Int) + r.2 - 1; omega) (by show (n : Int) + r.2 - 1 < (n : Int) + r.2; omega) fun l hl => ?_
        have h1 := Gd.last g l hl
        show l.2 + 1 < (n : Int) + 0
        by_cases z : l.2 = (n : Int) - 1
        · exact absurd e (bd l hl z (y.1, ((y :: t).length : Int)) rfl)
        · omega
      · rw [told', show stepR (toldR (y :: t)) r.1 r.2 = some (r.1, _ + r.2) from step_same e] at hx
        cases hx
        rfl
    · -- another kind
      have all : ∀ x ∈ y :: t, x.1 ≠ r.1 := fun x hx z => e ((u y (List.mem_cons_self ..) x hx).trans z)
      have lv : leavR (toldR (y :: t)) r.1 r.2 = if r.2 < ((y :: t).length : Int) then r.2 else ((y :: t).length : Int) := if_neg e
      have lfl : (flR R).length = (y :: t).length := by
        rw [fl]
        exact List.length_map _
      by_cases q : r.2 ≤ ((y :: t).length : Int)
      · have lv1 : leavR (toldR (y :: t)) r.1 r.2 = r.2 := by
          rw [lv]
          split <;> omega
        have ad : adP (toldR (y :: t)) (n : Int) r = [] := if_neg (by rw [lv1]; omega)
        rw [lv1, ad, List.append_nil]
        refine ⟨?_, Gd.mono (by omega) (wf_good g (by omega)), fun l hl hz => ?_⟩
        · rw [wf_flat g (by omega), fl, pl_other r.2.toNat _ n r.1 all, show r.2.toNat - (y :: t).length = 0 by omega]
          show _ = _ ++ []
          rw [List.append_nil]
        · have := wf_lastlt g (show 0 ≤ r.2 by omega) l hl
          omega
      · have lv1 : leavR (toldR (y :: t)) r.1 r.2 = ((y :: t).length : Int) := by
          rw [lv, if_neg (by omega)]
        have ad : adP (toldR (y :: t)) (n : Int) r = [((n : Int) + ((y :: t).length : Int), (n : Int) + r.2 - 1)] := by
          unfold adP
          rw [lv1, if_pos (by omega)]
        have fl0 : flR (wfR R ((y :: t).length : Int)) = [] := by
          rw [wf_flat g (by omega), Int.toNat_natCast, List.drop_of_length_le (by omega)]
        have w0 : wfR R ((y :: t).length : Int) = [] := by
          cases hw : wfR R ((y :: t).length : Int) with
          | nil => rfl
          | cons p s =>
            have gg := wf_good g (show 0 ≤ ((y :: t).length : Int) by omega)
            rw [hw] at gg fl0
            have g1 := gg.1
            rw [flR_cons] at fl0
            have l0 := congrArg List.length fl0
            rw [List.length_append, show (flP p).length = (p.2 - p.1 + 1).toNat from posL_len _ _] at l0
            have l0 : (p.2 - p.1 + 1).toNat + (flR s).length = 0 := l0
            omega
        rw [lv1, ad, w0]
        refine ⟨?_, ⟨by show (n : Int) + ((y :: t).length : Int) ≤ (n : Int) + r.2 - 1; omega, by show (n : Int) + r.2 - 1 < (n : Int) + r.2; omega, (fun x h => by cases h), trivial⟩, fun l _ _ x hx => ?_⟩
        · rw [pl_other r.2.toNat _ n r.1 all, List.drop_of_length_le (by unfold psW; rw [List.length_map]; omega)]
          show posL ((n : Int) + ((y :: t).length : Int)) ((n : Int) + r.2 - 1 - ((n : Int) + ((y :: t).length : Int)) + 1).toNat ++ [] = [] ++ _
          rw [List.append_nil, List.nil_append, show ((n : Int) + r.2 - 1 - ((n : Int) + ((y :: t).length : Int)) + 1).toNat = r.2.toNat - (y :: t).length by omega]
        · rw [told', show stepR (toldR (y :: t)) r.1 r.2 = _ from step_other (r := (y.1, ((y :: t).length : Int))) e] at hx
          have h0 : ¬ (0 : Int) < ((y :: t).length : Int) - r.2 := by omega
          have h1 : ¬ ((y :: t).length : Int) - r.2 = 0 := by omega
          have hx : (if (0 : Int) < ((y :: t).length : Int) - r.2 then some (y.1, ((y :: t).length : Int) - r.2) else if ((y :: t).length : Int) - r.2 = 0 then none else some (r.1, -(((y :: t).length : Int) - r.2))) = some x := hx
          rw [if_neg h0, if_neg h1] at hx
          cases hx
          rfl
theorem all_runs : ∀ (rs : List Run) (ws : List Run) (R : List Rg) (n : Nat), Uni ws → flR R = psW ws → Gd R (n : Int) → (∀ r ∈ rs, 1 ≤ r.2) → Alt rs → (∀ l, R.getLast? = some l → l.2 = (n : Int) - 1 → ∀ x r, toldR ws = some x → rs.head? = some r → x.1 ≠ r.1) →
    flR (waR rs (toldR ws) (n : Int) R) = psW (plA ws n (itR rs)) ∧ ∃ b, Gd (waR rs (toldR ws) (n : Int) R) b
  | [], ws, R, n, _, fl, g, _, _, _ => ⟨fl, _, g⟩
  | r :: t, ws, R, n, u, fl, g, k, alt, bd => by
    have c1 := k r (List.mem_cons_self ..)
    obtain ⟨h1, h2, h3⟩ := one_run (r := r) u fl g c1 fun l hl hz x hx => bd l hl hz x r hx rfl
    have e : itR (r :: t) = List.replicate r.2.toNat r.1 ++ itR t := rfl
    have cn : ((n + r.2.toNat : Nat) : Int) = (n : Int) + r.2 := by omega
    have told' : toldR (plA ws n (List.replicate r.2.toNat r.1)) = stepR (toldR ws) r.1 r.2 := by
      have nn : PosO (toldR ws) := by
        intro x hx
        cases ws with
        | nil => cases hx
        | cons y t =>
          cases hx
          show 1 ≤ (((y :: t).length : Nat) : Int)
          rw [List.length_cons]
          omega
      obtain ⟨c, hc⟩ : ∃ c : Nat, r.2.toNat = c + 1 := ⟨r.2.toNat - 1, by omega⟩
      rw [told_plA _ _ _ u, hc, it_step c _ _ nn, show (c : Int) + 1 = r.2 by omega]
    have ih := all_runs t (plA ws n (List.replicate r.2.toNat r.1)) _ (n + r.2.toNat) (uni_plA _ _ _ u) h1 (by rw [cn]; exact h2) (fun x hx => k x (List.mem_cons_of_mem _ hx)) (fun i x y hx hy => alt (i + 1) x y hx hy) (fun l hl hz x r' hx hr' => by
      have ex := h3 l hl (by omega) x hx
      rw [ex]
      refine alt 0 r r' rfl ?_
      cases t with
      | nil => cases hr'
      | cons y s => exact hr')
    rw [cn, told'] at ih
    rw [e, plA_app, List.length_replicate]
    exact ih
/-! ### the parts up to a moment -/
theorem cut_none {e : Int} : ∀ (rs : List Run) (b : Int), 0 ≤ b → e ≤ b → (∀ r ∈ rs, 1 ≤ r.2) → cutR 0 e b rs = []
  | [], _, _, _, _ => rfl
  | r :: t, b, h0, h, k => by
    have c1 := k r (List.mem_cons_self ..)
    have hs : ¬ 0 < sizeR b 0 e r.2 := by
      unfold sizeR
      split <;> split <;> omega
    show pieceR b 0 e r ++ cutR 0 e (b + r.2) t = []
    rw [show pieceR b 0 e r = [] from if_neg hs, cut_none t (b + r.2) (by omega) (by omega) fun x hx => k x (List.mem_cons_of_mem _ hx)]
    rfl
theorem cut_kinds {e : Int} : ∀ (rs : List Run) (b : Int), 0 ≤ b → (∀ r ∈ rs, 1 ≤ r.2) → ∃ n, (cutR 0 e b rs).map (·.1) = (rs.map (·.1)).take n
  | [], _, _, _ => ⟨0, rfl⟩
  | r :: t, b, h0, k => by
    by_cases h : e ≤ b
    · exact ⟨0, by rw [cut_none (r :: t) b h0 h k]; rfl⟩
    · have c1 := k r (List.mem_cons_self ..)
      obtain ⟨n, hn⟩ := cut_kinds t (b + r.2) (by omega) fun x hx => k x (List.mem_cons_of_mem _ hx)
      have hs : 0 < sizeR b 0 e r.2 := by
        unfold sizeR
        split <;> split <;> omega
      refine ⟨n + 1, ?_⟩
      show (pieceR b 0 e r ++ cutR 0 e (b + r.2) t).map (·.1) = r.1 :: (t.map (·.1)).take n
      rw [show pieceR b 0 e r = [(r.1, sizeR b 0 e r.2)] from if_pos hs, List.map_append, hn]
      rfl
theorem alt_take {rs hs : List Run} {n : Nat} (h : hs.map (·.1) = (rs.map (·.1)).take n) (a : Alt rs) : Alt hs := by
  intro i x y hx hy
  have g : ∀ (j : Nat) (z : Run), hs[j]? = some z → ∃ w, rs[j]? = some w ∧ w.1 = z.1 := by
    intro j z hz
    have := congrArg (fun l : List Str => l[j]?) h
    simp only [List.getElem?_map, hz, List.getElem?_take] at this
    split at this
    · cases e : rs[j]? with
      | none => rw [e] at this; cases this
      | some w =>
        rw [e] at this
        exact ⟨w, rfl, (Option.some.inj this).symm⟩
    · cases this
  obtain ⟨x', h1, e1⟩ := g i x hx
  obtain ⟨y', h2, e2⟩ := g (i + 1) y hy
  rw [← e1, ← e2]
  exact a i x' y' h1 h2
/-- the ranges at a multiplied moment -/
theorem whole_wa {rs : List Run} {t : Int} {m : Nat} (ht : 0 < t) (k : ∀ r ∈ rs, 1 ≤ r.2) (a : Alt rs) : waR (cutR 0 ((m : Int) * t) 0 (scR t rs)) none 0 [] = rgR t (psW (plA [] 0 ((itR rs).take m))) := by
  have ec := cut_sc (s := 0) (e := (m : Int)) ht rs 0
  rw [Int.zero_mul] at ec
  have es := waR_sc ht (cutR 0 (m : Int) 0 rs) none 0 []
  rw [Int.zero_mul] at es
  obtain ⟨n, hn⟩ := cut_kinds (e := (m : Int)) rs 0 (Int.le_refl _) k
  obtain ⟨h1, b, h2⟩ := all_runs (cutR 0 (m : Int) 0 rs) [] [] 0 (fun x hx => by cases hx) rfl trivial cutR_pos (alt_take hn a) (fun l hl => by cases hl)
  have h1 : flR (waR (cutR 0 (m : Int) 0 rs) none 0 []) = psW (plA [] 0 (itR (cutR 0 (m : Int) 0 rs))) := h1
  have h2 : Gd (waR (cutR 0 (m : Int) 0 rs) none 0 []) b := h2
  rw [cut_items _ _ _ (Int.le_refl _) k, Int.sub_zero, Int.toNat_natCast] at h1
  have rf := rg_flat _ [] h2 (fun l p hl => by cases hl)
  rw [h1, List.nil_append] at rf
  rw [ec, rgR_sc ht]
  unfold rgR
  rw [rf]
  exact es
end UP

set_option Elab.async false
set_option linter.all false
set_option maxRecDepth 100000
set_option maxHeartbeats 4000000
namespace UP
open PySem PySem.Spec PyProof.Rows L2
/-! ### lists of ranges -/
def Rngs (H : Hp) (a : Addr) (R : List Rg) : Prop := ∃ xs, H a = some (.lst xs) ∧ Paired (PV H) xs R
theorem pvs_same {H H' : Hp} {xs : List V} {R : List Rg} (s : Same H H') (h : Paired (PV H) xs R) : Paired (PV H') xs R := Paired.imp (fun _ _ => PV.same s) h
theorem pvs_grow {H : Hp} {D : Addr} {acc acc' xs : List V} {R : List Rg} (hD : H D = some (.lst acc)) (h : Paired (PV H) xs R) : Paired (PV (upd H D (.lst acc'))) xs R := Paired.imp (fun _ _ => PV.grow hD) h
theorem Rngs.same {H H' : Hp} {a : Addr} {R : List Rg} (s : Same H H') (h : Rngs H a R) : Rngs H' a R := by
  obtain ⟨xs, hx, hp⟩ := h
  exact ⟨xs, s _ _ hx, pvs_same s hp⟩
theorem wfP_len (p : Rg) (n : Int) : (wfP p n).length ≤ 1 := by
  unfold wfP
  split <;> simp
theorem wfR_len : ∀ (R : List Rg) (n : Int), (wfR R n).length ≤ R.length
  | [], _ => Nat.le_refl _
  | p :: t, n => by
    have h1 := wfP_len p n
    have h2 := wfR_len t (n - rmR p n)
    show (wfP p n ++ wfR t (n - rmR p n)).length ≤ _
    rw [List.length_append, List.length_cons]
    omega
theorem adP_len (st : Option Run) (b : Int) (r : Run) : (adP st b r).length ≤ 1 := by
  unfold adP
  split <;> simp
theorem waR_len : ∀ (l : List Run) (st : Option Run) (b : Int) (R : List Rg), (waR l st b R).length ≤ R.length + l.length
  | [], _, _, _ => Nat.le_refl _
  | r :: t, st, b, R => by
    have h1 := waR_len t (stepR st r.1 r.2) (b + r.2) (wfR R (leavR st r.1 r.2) ++ adP st b r)
    have h2 := wfR_len R (leavR st r.1 r.2)
    have h3 := adP_len st b r
    rw [List.length_append] at h1
    show (waR t (stepR st r.1 r.2) (b + r.2) (wfR R (leavR st r.1 r.2) ++ adP st b r)).length ≤ _
    rw [List.length_cons]
    omega
theorem paired_snocR {α β : Type} {F : α → β → Prop} : ∀ {xs : List α} (l : List β) (y : β), Paired F xs (l ++ [y]) → ∃ xs0 x, xs = xs0 ++ [x] ∧ Paired F xs0 l ∧ F x y
  | _, [], y, h => by
    cases h with
    | cons h1 h2 =>
      cases h2
      exact ⟨[], _, rfl, .nil, h1⟩
  | _, z :: l, y, h => by
    cases h with
    | cons h1 h2 =>
      obtain ⟨xs0, x, e, h3, h4⟩ := paired_snocR l y h2
      exact ⟨_ :: xs0, x, by rw [e]; rfl, .cons h1 h3, h4⟩
theorem Gd.gap {b : Int} {p : Rg} : ∀ {R : List Rg}, Gd (R ++ [p]) b → ∀ l, R.getLast? = some l → l.2 + 1 < p.1
  | [], _, l, h => by cases h
  | [q], g, l, h => by
    have e : q = l := Option.some.inj h
    rw [← e]
    exact g.2.2.1 p rfl
  | q :: r :: t, g, l, h => by
    rw [List.getLast?_cons_cons] at h
    exact Gd.gap (R := r :: t) g.2.2.2 l h
/-- a new range never touches the last one -/
theorem no_touch {cs : List Run} (pos : ∀ r ∈ cs, 1 ≤ r.2) (alt : Alt cs) {i : Nat} {r : Run} (er : cs[i]? = some r) : leavR (stR (cs.take i) none) r.1 r.2 < r.2 → ∀ l, (wfR (waR (cs.take i) none 0 []) (leavR (stR (cs.take i) none) r.1 r.2)).getLast? = some l → l.2 + 1 ≠ lenR (cs.take i) + leavR (stR (cs.take i) none) r.1 r.2 := by
  intro lt l hl z
  obtain ⟨_, b, g⟩ := all_runs (cs.take (i + 1)) [] [] 0 (fun x hx => by cases hx) rfl trivial (fun x hx => pos x (List.mem_of_mem_take hx)) (alt_take (n := i + 1) List.map_take alt) (fun l hl => by cases hl)
  have g : Gd (waR (cs.take (i + 1)) none 0 []) b := g
  rw [take_snoc er, waR_snoc, Int.zero_add, show adP (stR (cs.take i) none) (lenR (cs.take i)) r = [_] from if_pos lt] at g
  have := Gd.gap g l hl
  have this : l.2 + 1 < lenR (cs.take i) + leavR (stR (cs.take i) none) r.1 r.2 := this
  omega
section
variable {P : Program} {w : World} {K : PySem.W.Frag} {mg : Str → Option Value} {base : Heap}
end
end UP

set_option Elab.async false
set_option linter.all false
set_option maxRecDepth 100000
set_option maxHeartbeats 4000000
namespace UP
open PySem PySem.Spec PyProof.Rows L2
/-! ### blocks of pairs -/
theorem paired_snoc {α β : Type} {F : α → β → Prop} : ∀ {xs : List α} (l : List β) (y : β), Paired F xs (l ++ [y]) → ∃ xs0 x, xs = xs0 ++ [x] ∧ Paired F xs0 l ∧ F x y
  | _, [], y, h => by
    cases h with
    | cons h1 h2 =>
      cases h2
      exact ⟨[], _, rfl, .nil, h1⟩
  | _, z :: l, y, h => by
    cases h with
    | cons h1 h2 =>
      obtain ⟨xs0, x, e, h3, h4⟩ := paired_snoc l y h2
      exact ⟨_ :: xs0, x, by rw [e]; rfl, .cons h1 h3, h4⟩
theorem set_lastX {α : Type} : ∀ (l : List α) (x y : α), (l ++ [x]).set l.length y = l ++ [y]
  | [], _, _ => rfl
  | z :: l, x, y => congrArg (z :: ·) (set_lastX l x y)
theorem ixN_lastX {n : Nat} : ixN (n + 1) (-1) = some n := by
  unfold ixN
  simp
  omega
abbrev Blk := Int × Int × Int
def BV (H : Hp) (v : V) (b : Blk) : Prop := ∃ t, v = .ref t ∧ H t = some (.tup [.int b.1, .int b.2.1, .int b.2.2])
theorem BV.same {H H' : Hp} {v : V} {p : Blk} (s : Same H H') (h : BV H v p) : BV H' v p := by
  obtain ⟨t, e, h⟩ := h
  exact ⟨t, e, s _ _ h⟩
theorem BV.grow {H : Hp} {D : Addr} {acc acc' : List V} {v : V} {p : Blk} (hD : H D = some (.lst acc)) (h : BV H v p) : BV (upd H D (.lst acc')) v p := by
  obtain ⟨t, e, h⟩ := h
  refine ⟨t, e, ?_⟩
  rw [upd_ne (ne_of h hD (by intro q; cases q))]
  exact h
theorem BV.but {H H' : Hp} {D : Addr} {acc : List V} {v : V} {p : Blk} (hD : H D = some (.lst acc)) (s : But D H H') (h : BV H v p) : BV H' v p := by
  obtain ⟨t, e, h⟩ := h
  exact ⟨t, e, s _ _ (ne_of h hD (by intro q; cases q)) h⟩
def Blks (H : Hp) (a : Addr) (B : List Blk) : Prop := ∃ xs, H a = some (.lst xs) ∧ Paired (BV H) xs B
theorem bvs_same {H H' : Hp} {xs : List V} {R : List Blk} (s : Same H H') (h : Paired (BV H) xs R) : Paired (BV H') xs R := Paired.imp (fun _ _ => BV.same s) h
theorem bvs_grow {H : Hp} {D : Addr} {acc acc' xs : List V} {R : List Blk} (hD : H D = some (.lst acc)) (h : Paired (BV H) xs R) : Paired (BV (upd H D (.lst acc'))) xs R := Paired.imp (fun _ _ => BV.grow hD) h
theorem Blks.same {H H' : Hp} {a : Addr} {R : List Blk} (s : Same H H') (h : Blks H a R) : Blks H' a R := by
  obtain ⟨xs, hx, hp⟩ := h
  exact ⟨xs, s _ _ hx, bvs_same s hp⟩
def brP (p : Rg) (b n : Int) : List Blk := if 0 < rmR p n then [(p.1, b, rmR p n)] else []
def brR : List Rg → Int → Int → List Blk
  | [], _, _ => []
  | p :: t, b, n => brP p b n ++ brR t (b + rmR p n) (n - rmR p n)
theorem brR_snoc : ∀ (l : List Rg) (p : Rg) (b n : Int), brR (l ++ [p]) b n = brR l b n ++ brP p (b + (n - wfN l n)) (wfN l n)
  | [], p, b, n => by
    show brP p b n ++ [] = [] ++ brP p (b + (n - n)) n
    rw [List.append_nil, List.nil_append, show b + (n - n) = b by omega]
  | x :: t, p, b, n => by
    show brP x b n ++ brR (t ++ [p]) (b + rmR x n) (n - rmR x n) = (brP x b n ++ brR t (b + rmR x n) (n - rmR x n)) ++ brP p (b + (n - wfN t (n - rmR x n))) (wfN t (n - rmR x n))
    rw [brR_snoc t, List.append_assoc, show b + rmR x n + (n - rmR x n - wfN t (n - rmR x n)) = b + (n - wfN t (n - rmR x n)) by omega]
theorem brP_len (p : Rg) (b n : Int) : (brP p b n).length ≤ 1 := by
  unfold brP
  split <;> simp
theorem brR_len : ∀ (R : List Rg) (b n : Int), (brR R b n).length ≤ R.length
  | [], _, _ => Nat.le_refl _
  | p :: t, b, n => by
    have h1 := brP_len p b n
    have h2 := brR_len t (b + rmR p n) (n - rmR p n)
    show (brP p b n ++ brR t (b + rmR p n) (n - rmR p n)).length ≤ _
    rw [List.length_append, List.length_cons]
    omega
def addB (B : List Blk) (x : Blk) : List Blk := match B.getLast? with
  | none => B ++ [x]
  | some l => if l.1 + l.2.2 = x.1 ∧ l.2.1 + l.2.2 = x.2.1 then B.dropLast ++ [(l.1, l.2.1, l.2.2 + x.2.2)] else B ++ [x]
theorem addB_len (B : List Blk) (x : Blk) : (addB B x).length ≤ B.length + 1 := by
  unfold addB
  split
  · rw [List.length_append]
    exact Nat.le_refl _
  · split
    · rw [List.length_append, List.length_dropLast]
      simp only [List.length_cons, List.length_nil]
      omega
    · rw [List.length_append]
      exact Nat.le_refl _
def addsB (B xs : List Blk) : List Blk := xs.foldl addB B
theorem addsB_snoc (B xs : List Blk) (x : Blk) : addsB B (xs ++ [x]) = addB (addsB B xs) x := by
  unfold addsB
  rw [List.foldl_append]
  rfl
theorem addsB_len : ∀ (xs B : List Blk), (addsB B xs).length ≤ B.length + xs.length
  | [], B => Nat.le_refl _
  | x :: t, B => by
    have h1 := addsB_len t (addB B x)
    have h2 := addB_len B x
    show (addsB (addB B x) t).length ≤ _
    rw [List.length_cons]
    omega
def boR : List Run → Option Run → Int → List Rg → List Blk → List Blk
  | [], _, _, _, B => B
  | r :: t, st, b, R, B => boR t (stepR st r.1 r.2) (b + r.2) (wfR R (leavR st r.1 r.2) ++ adP st b r) (addsB B (brR R b (leavR st r.1 r.2)))
theorem boR_snoc : ∀ (l : List Run) (r : Run) (st : Option Run) (b : Int) (R : List Rg) (B : List Blk), boR (l ++ [r]) st b R B = addsB (boR l st b R B) (brR (waR l st b R) (b + lenR l) (leavR (stR l st) r.1 r.2))
  | [], r, st, b, R, B => by
    show addsB B (brR R b (leavR st r.1 r.2)) = addsB B (brR R (b + lenR []) (leavR st r.1 r.2))
    rw [lenR_nil, Int.add_zero]
  | x :: t, r, st, b, R, B => by
    show boR (t ++ [r]) (stepR st x.1 x.2) (b + x.2) (wfR R (leavR st x.1 x.2) ++ adP st b x) (addsB B (brR R b (leavR st x.1 x.2))) = addsB (boR t (stepR st x.1 x.2) (b + x.2) (wfR R (leavR st x.1 x.2) ++ adP st b x) (addsB B (brR R b (leavR st x.1 x.2)))) (brR (waR t (stepR st x.1 x.2) (b + x.2) (wfR R (leavR st x.1 x.2) ++ adP st b x)) (b + lenR (x :: t)) (leavR (stR (x :: t) st) r.1 r.2))
    rw [boR_snoc t, stR_cons, lenR_cons, Int.add_assoc]
theorem boR_len : ∀ (l : List Run) (st : Option Run) (b : Int) (R : List Rg) (B : List Blk), (boR l st b R B).length ≤ B.length + l.length * (R.length + l.length)
  | [], _, _, _, _ => by
    show _ ≤ _ + 0 * _
    rw [Nat.zero_mul]
    exact Nat.le_refl _
  | r :: t, st, b, R, B => by
    have h1 := boR_len t (stepR st r.1 r.2) (b + r.2) (wfR R (leavR st r.1 r.2) ++ adP st b r) (addsB B (brR R b (leavR st r.1 r.2)))
    have h2 := addsB_len (brR R b (leavR st r.1 r.2)) B
    have h3 := brR_len R b (leavR st r.1 r.2)
    have h4 := wfR_len R (leavR st r.1 r.2)
    have h5 := adP_len st b r
    rw [List.length_append] at h1
    show (boR t (stepR st r.1 r.2) (b + r.2) (wfR R (leavR st r.1 r.2) ++ adP st b r) (addsB B (brR R b (leavR st r.1 r.2)))).length ≤ _
    rw [List.length_cons, Nat.succ_mul]
    have h6 : t.length * ((wfR R (leavR st r.1 r.2)).length + (adP st b r).length + t.length) ≤ t.length * (R.length + (t.length + 1)) := Nat.mul_le_mul_left _ (by omega)
    omega
theorem shaped_not {B : List Blk} : B = [] ∨ ∃ B0 l, B = B0 ++ [l] := by
  rcases List.eq_nil_or_concat B with e | ⟨B0, l, e⟩
  · exact .inl e
  · exact .inr ⟨B0, l, by rw [e, List.concat_eq_append]⟩
section
variable {P : Program} {w : World} {K : PySem.W.Frag} {mg : Str → Option Value} {base : Heap}
end
end UP

set_option Elab.async false
set_option linter.all false
set_option maxRecDepth 100000
set_option maxHeartbeats 4000000
namespace UP
open PySem PySem.Spec PyProof.Rows L2
def pgR : List Blk → Int → Option Int
  | [], _ => none
  | x :: t, p => if x.1 ≤ p ∧ p < x.1 + x.2.2 then some (x.2.1 + p - x.1) else if x.2.1 ≤ p ∧ p < x.2.1 + x.2.2 then some (x.1 + p - x.2.1) else pgR t p
def oI : Option Int → V
  | none => .non
  | some i => .int i
theorem drop_at {α : Type} {l : List α} {i : Nat} {x : α} (h : l[i]? = some x) : l.drop i = x :: l.drop (i + 1) := by
  obtain ⟨hi, e⟩ := List.getElem?_eq_some_iff.mp h
  rw [List.drop_eq_getElem_cons hi, e]
def blR (rs : List Run) : List Blk := boR rs none 0 [] []
theorem Rngs.butB {H H' : Hp} {D a : Addr} {acc : List V} {R : List Rg} (hD : H D = some (.lst acc)) (n : a ≠ D) (s : But D H H') (h : Rngs H a R) : Rngs H' a R := by
  obtain ⟨xs, hx, hp⟩ := h
  refine ⟨xs, s _ _ n hx, Paired.imp (fun v p z => ?_) hp⟩
  obtain ⟨t, e, ht⟩ := z
  exact ⟨t, e, s _ _ (ne_of ht hD (by intro q; cases q)) ht⟩
theorem Runs.butB {H H' : Hp} {D a : Addr} {acc : List V} {R : List Run} (hD : H D = some (.lst acc)) (n : a ≠ D) (s : But D H H') (h : Runs H a R) : Runs H' a R := by
  obtain ⟨xs, hx, hp⟩ := h
  refine ⟨xs, s _ _ n hx, Paired.imp (fun v p z => ?_) hp⟩
  obtain ⟨t, e, ht⟩ := z
  exact ⟨t, e, s _ _ (ne_of ht hD (by intro q; cases q)) ht⟩
theorem StV.butB {H H' : Hp} {D : Addr} {acc : List V} {v : V} {st : Option Run} (hD : H D = some (.lst acc)) (s : But D H H') (h : StV H v st) : StV H' v st := by
  cases st with
  | none => exact h
  | some r =>
    obtain ⟨t, e, ht⟩ := h
    exact ⟨t, e, s _ _ (ne_of ht hD (by intro q; cases q)) ht⟩
/-- what was there before stays, whatever is done to a list that is new -/
theorem Same.butB {H H1 H' : Hp} {D : Addr} (n : H D = none) (s : Same H H1) (b : But D H1 H') : Same H H' := fun a o e => b _ _ (ne_of_none e n) (s _ _ e)
section
variable {P : Program} {w : World} {K : PySem.W.Frag} {mg : Str → Option Value} {base : Heap}
end
end UP

set_option Elab.async false
set_option linter.all false
set_option maxRecDepth 100000
set_option maxHeartbeats 4000000
namespace UP
open PySem PySem.Spec PyProof.Rows L2
/-! ### pairs written out -/
abbrev Pr := Int × Int
def zpL : List Int → Int → List Pr
  | [], _ => []
  | p :: t, b => (p, b) :: zpL t (b + 1)
theorem zpL_app : ∀ (l m : List Int) (b : Int), zpL (l ++ m) b = zpL l b ++ zpL m (b + (l.length : Int))
  | [], m, b => by
    show zpL m b = zpL m (b + ((0 : Nat) : Int))
    rw [show b + ((0 : Nat) : Int) = b by omega]
  | p :: t, m, b => by
    show (p, b) :: zpL (t ++ m) (b + 1) = (p, b) :: (zpL t (b + 1) ++ zpL m (b + ((p :: t).length : Int)))
    rw [zpL_app t m, List.length_cons, show b + 1 + (t.length : Int) = b + ((t.length + 1 : Nat) : Int) by omega]
def flX (x : Blk) : List Pr := zpL (posL x.1 x.2.2.toNat) x.2.1
def flB (B : List Blk) : List Pr := B.flatMap flX
theorem flB_app (B C : List Blk) : flB (B ++ C) = flB B ++ flB C := List.flatMap_append ..
theorem flB_one (x : Blk) : flB [x] = flX x := by
  show flX x ++ [] = _
  rw [List.append_nil]
def PosB (B : List Blk) : Prop := ∀ x ∈ B, 0 < x.2.2
theorem posL_take : ∀ (n k : Nat) (a : Int), k ≤ n → (posL a n).take k = posL a k := by
  intro n k a h
  have e : n = k + (n - k) := by omega
  rw [e, posL_app, List.take_append_of_le_length (by rw [posL_len]; exact Nat.le_refl _), List.take_of_length_le (by rw [posL_len]; exact Nat.le_refl _)]
theorem fl_br {c : Int} : ∀ {R : List Rg} {b n : Int}, Gd R c → 0 ≤ n → flB (brR R b n) = zpL ((flR R).take n.toNat) b
  | [], b, n, _, _ => by
    show ([] : List Pr) = zpL (([] : List Int).take _) b
    rw [List.take_nil]
    rfl
  | p :: t, b, n, g, hn => by
    have g1 := g.1
    have h := rm_le (p := p) g1 hn
    have ih := fl_br (b := b + rmR p n) (n := n - rmR p n) g.2.2.2 (by omega)
    show flB (brP p b n ++ brR t (b + rmR p n) (n - rmR p n)) = zpL ((flP p ++ flR t).take n.toNat) b
    have lp : (flP p).length = (p.2 - p.1 + 1).toNat := posL_len _ _
    have e1 : flB (brP p b n) = zpL (posL p.1 (rmR p n).toNat) b := by
      by_cases c : 0 < rmR p n
      · rw [show brP p b n = [(p.1, b, rmR p n)] from if_pos c, flB_one]
        rfl
      · rw [show brP p b n = [] from if_neg c, show (rmR p n).toNat = 0 by omega]
        rfl
    rw [flB_app, ih, e1, List.take_append, zpL_app, lp]
    have e2 : (flP p).take n.toNat = posL p.1 (rmR p n).toNat := by
      by_cases c : rmR p n < p.2 - p.1 + 1
      · have e := h.2.2.2 c
        unfold flP
        rw [posL_take _ _ _ (by omega), e]
      · rw [List.take_of_length_le (by omega)]
        unfold flP
        rw [show (p.2 - p.1 + 1).toNat = (rmR p n).toNat by omega]
    rw [e2, posL_len, show ((rmR p n).toNat : Int) = rmR p n by omega, show (n - rmR p n).toNat = n.toNat - (p.2 - p.1 + 1).toNat by
      by_cases c : rmR p n < p.2 - p.1 + 1
      · have e := h.2.2.2 c
        omega
      · omega]
theorem pos_brR : ∀ (R : List Rg) (b n : Int), PosB (brR R b n)
  | [], _, _ => fun x h => by cases h
  | p :: t, b, n => by
    intro x hx
    rcases List.mem_append.mp (show x ∈ brP p b n ++ brR t (b + rmR p n) (n - rmR p n) from hx) with z | z
    · by_cases c : 0 < rmR p n
      · rw [show brP p b n = [(p.1, b, rmR p n)] from if_pos c] at z
        rw [List.mem_singleton.mp z]
        exact c
      · rw [show brP p b n = [] from if_neg c] at z
        cases z
    · exact pos_brR t _ _ x z
theorem addB_cases (B : List Blk) (x : Blk) : addB B x = B ++ [x] ∨ ∃ B0 l, B = B0 ++ [l] ∧ l.1 + l.2.2 = x.1 ∧ l.2.1 + l.2.2 = x.2.1 ∧ addB B x = B0 ++ [(l.1, l.2.1, l.2.2 + x.2.2)] := by
  rcases shaped_not (B := B) with e | ⟨B0, l, e⟩
  · subst e
    exact .inl rfl
  · subst e
    by_cases c : l.1 + l.2.2 = x.1 ∧ l.2.1 + l.2.2 = x.2.1
    · refine .inr ⟨B0, l, rfl, c.1, c.2, ?_⟩
      unfold addB
      rw [List.getLast?_concat, List.dropLast_concat]
      exact if_pos c
    · refine .inl ?_
      unfold addB
      rw [List.getLast?_concat]
      exact if_neg c
theorem fl_add {B : List Blk} {x : Blk} (h : PosB B) (hx : 0 < x.2.2) : flB (addB B x) = flB B ++ flX x ∧ PosB (addB B x) := by
  rcases addB_cases B x with e | ⟨B0, l, e0, c1, c2, e⟩
  · rw [e, flB_app, flB_one]
    refine ⟨rfl, fun y hy => ?_⟩
    rcases List.mem_append.mp hy with z | z
    · exact h y z
    · rw [List.mem_singleton.mp z]
      exact hx
  · subst e0
    have hl : 0 < l.2.2 := h l (List.mem_append.mpr (.inr (List.mem_singleton.mpr rfl)))
    rw [e]
    refine ⟨?_, fun y hy => ?_⟩
    · rw [flB_app, flB_app, flB_one, flB_one, List.append_assoc]
      congr 1
      show zpL (posL l.1 (l.2.2 + x.2.2).toNat) l.2.1 = zpL (posL l.1 l.2.2.toNat) l.2.1 ++ zpL (posL x.1 x.2.2.toNat) x.2.1
      rw [show (l.2.2 + x.2.2).toNat = l.2.2.toNat + x.2.2.toNat by omega, posL_app, zpL_app, posL_len, show ((l.2.2.toNat : Nat) : Int) = l.2.2 by omega, c1, c2]
    · rcases List.mem_append.mp hy with z | z
      · exact h y (List.mem_append.mpr (.inl z))
      · rw [List.mem_singleton.mp z]
        show 0 < l.2.2 + x.2.2
        omega
theorem fl_adds : ∀ (xs B : List Blk), PosB B → PosB xs → flB (addsB B xs) = flB B ++ flB xs ∧ PosB (addsB B xs)
  | [], B, h, _ => by
    refine ⟨?_, h⟩
    show flB B = flB B ++ []
    rw [List.append_nil]
  | x :: t, B, h, hx => by
    obtain ⟨a1, a2⟩ := fl_add (x := x) h (hx x (List.mem_cons_self ..))
    obtain ⟨b1, b2⟩ := fl_adds t (addB B x) a2 fun y hy => hx y (List.mem_cons_of_mem _ hy)
    refine ⟨?_, b2⟩
    show flB (addsB (addB B x) t) = flB B ++ (flX x ++ flB t)
    rw [b1, a1, List.append_assoc]
/-! ### the pairs of a run -/
theorem psR_app : ∀ (l m : List Str) (ws : List Run) (n : Nat), psR ws n (l ++ m) = psR ws n l ++ psR (plA ws n l) (n + l.length) m
  | [], m, ws, n => rfl
  | k :: t, m, ws, n => by
    show plP ws k n ++ psR (plS ws k n) (n + 1) (t ++ m) = (plP ws k n ++ psR (plS ws k n) (n + 1) t) ++ psR (plA (plS ws k n) (n + 1) t) (n + (k :: t).length) m
    rw [psR_app t m, List.length_cons, List.append_assoc, show n + 1 + t.length = n + (t.length + 1) by omega]
theorem ps_same : ∀ (c : Nat) (ws : List Run) (n : Nat) (k : Str), (∀ r ∈ ws, r.1 = k) → psR ws n (List.replicate c k) = []
  | 0, _, _, _, _ => rfl
  | c + 1, ws, n, k, h => by
    have e : plS ws k n = ws ++ [(k, (n : Int))] ∧ plP ws k n = [] := by
      cases ws with
      | nil => exact ⟨rfl, rfl⟩
      | cons r t => exact ⟨if_pos (h r (List.mem_cons_self ..)), if_pos (h r (List.mem_cons_self ..))⟩
    show plP ws k n ++ psR (plS ws k n) (n + 1) (List.replicate c k) = []
    rw [e.1, e.2, ps_same c _ (n + 1) k (fun r hr => by
      rcases List.mem_append.mp hr with z | z
      · exact h r z
      · rw [List.mem_singleton.mp z])]
    rfl
theorem ps_other : ∀ (c : Nat) (ws : List Run) (n : Nat) (k : Str), (∀ r ∈ ws, r.1 ≠ k) → psR ws n (List.replicate c k) = zpL ((psW ws).take c) (n : Int)
  | 0, ws, n, k, _ => rfl
  | c + 1, [], n, k, _ => by
    rw [ps_same (c + 1) [] n k (fun r h => by cases h)]
    rfl
  | c + 1, r :: t, n, k, h => by
    have hr := h r (List.mem_cons_self ..)
    have e1 : plS (r :: t) k n = t := if_neg hr
    have e2 : plP (r :: t) k n = [(r.2, (n : Int))] := if_neg hr
    show plP (r :: t) k n ++ psR (plS (r :: t) k n) (n + 1) (List.replicate c k) = (r.2, (n : Int)) :: zpL ((psW t).take c) ((n : Int) + 1)
    rw [e1, e2, ps_other c t (n + 1) k fun x hx => h x (List.mem_cons_of_mem _ hx)]
    rfl
theorem pairs_run {ws : List Run} {R : List Rg} {n : Nat} {r : Run} {b : Int} (u : Uni ws) (fl : flR R = psW ws) (g : Gd R b) (c1 : 1 ≤ r.2) : flB (brR R (n : Int) (leavR (toldR ws) r.1 r.2)) = psR ws n (List.replicate r.2.toNat r.1) := by
  cases ws with
  | nil =>
    rw [ps_same _ [] n r.1 (fun r h => by cases h), fl_br g (by show (0 : Int) ≤ 0; omega)]
    rfl
  | cons y t =>
    by_cases e : y.1 = r.1
    · have all : ∀ x ∈ y :: t, x.1 = r.1 := fun x hx => (u x hx y (List.mem_cons_self ..)).trans e
      have lv : leavR (toldR (y :: t)) r.1 r.2 = 0 := if_pos e
      rw [lv, ps_same _ _ n r.1 all, fl_br g (Int.le_refl _)]
      rfl
    · have all : ∀ x ∈ y :: t, x.1 ≠ r.1 := fun x hx z => e ((u y (List.mem_cons_self ..) x hx).trans z)
      have lv : leavR (toldR (y :: t)) r.1 r.2 = if r.2 < ((y :: t).length : Int) then r.2 else ((y :: t).length : Int) := if_neg e
      have lp : (psW (y :: t)).length = (y :: t).length := List.length_map _
      rw [ps_other _ _ n r.1 all, lv]
      by_cases q : r.2 < ((y :: t).length : Int)
      · rw [if_pos q, fl_br g (by omega), fl]
      · rw [if_neg q, fl_br g (by omega), fl, List.take_of_length_le (by omega), List.take_of_length_le (by omega)]
theorem all_pairs : ∀ (rs : List Run) (ws : List Run) (R : List Rg) (n : Nat) (B : List Blk), Uni ws → flR R = psW ws → Gd R (n : Int) → (∀ r ∈ rs, 1 ≤ r.2) → Alt rs → (∀ l, R.getLast? = some l → l.2 = (n : Int) - 1 → ∀ x r, toldR ws = some x → rs.head? = some r → x.1 ≠ r.1) → PosB B →
    flB (boR rs (toldR ws) (n : Int) R B) = flB B ++ psR ws n (itR rs) ∧ PosB (boR rs (toldR ws) (n : Int) R B)
  | [], ws, R, n, B, _, _, _, _, _, _, hB => by
    refine ⟨?_, hB⟩
    show flB B = flB B ++ []
    rw [List.append_nil]
  | r :: t, ws, R, n, B, u, fl, g, k, alt, bd, hB => by
    have c1 := k r (List.mem_cons_self ..)
    obtain ⟨h1, h2, h3⟩ := one_run (r := r) u fl g c1 fun l hl hz x hx => bd l hl hz x r hx rfl
    obtain ⟨a1, a2⟩ := fl_adds (brR R (n : Int) (leavR (toldR ws) r.1 r.2)) B hB (pos_brR _ _ _)
    rw [pairs_run u fl g c1] at a1
    have e : itR (r :: t) = List.replicate r.2.toNat r.1 ++ itR t := rfl
    have cn : ((n + r.2.toNat : Nat) : Int) = (n : Int) + r.2 := by omega
    have told' : toldR (plA ws n (List.replicate r.2.toNat r.1)) = stepR (toldR ws) r.1 r.2 := by
      have nn : PosO (toldR ws) := by
        intro x hx
        cases ws with
        | nil => cases hx
        | cons y t =>
          cases hx
          show 1 ≤ (((y :: t).length : Nat) : Int)
          rw [List.length_cons]
          omega
      obtain ⟨c, hc⟩ : ∃ c : Nat, r.2.toNat = c + 1 := ⟨r.2.toNat - 1, by omega⟩
      rw [told_plA _ _ _ u, hc, it_step c _ _ nn, show (c : Int) + 1 = r.2 by omega]
    have ih := all_pairs t (plA ws n (List.replicate r.2.toNat r.1)) _ (n + r.2.toNat) _ (uni_plA _ _ _ u) h1 (by rw [cn]; exact h2) (fun x hx => k x (List.mem_cons_of_mem _ hx)) (fun i x y hx hy => alt (i + 1) x y hx hy) (fun l hl hz x r' hx hr' => by
      have ex := h3 l hl (by omega) x hx
      rw [ex]
      refine alt 0 r r' rfl ?_
      cases t with
      | nil => cases hr'
      | cons y s => exact hr') a2
    rw [cn, told', a1] at ih
    rw [e, psR_app, List.length_replicate, ← List.append_assoc]
    exact ih
theorem whole_pairs {rs : List Run} (k : ∀ r ∈ rs, 1 ≤ r.2) (a : Alt rs) : flB (blR rs) = psR [] 0 (itR rs) ∧ PosB (blR rs) := by
  obtain ⟨h1, h2⟩ := all_pairs rs [] [] 0 [] (fun x hx => by cases hx) rfl trivial k a (fun l hl => by cases hl) (fun x hx => by cases hx)
  exact ⟨h1, h2⟩
/-! ### every position once -/
theorem ps_perm : ∀ (ks : List Str) (ws : List Run) (n : Nat), ((psR ws n ks).map (·.1) ++ ((psR ws n ks).map (·.2) ++ psW (plA ws n ks))).Perm (psW ws ++ posL (n : Int) ks.length)
  | [], ws, n => by
    show (([] : List Int) ++ ([] ++ psW ws)).Perm (psW ws ++ [])
    rw [List.append_nil]
    exact .refl _
  | k :: t, ws, n => by
    have ih := ps_perm t (plS ws k n) (n + 1)
    have eL : posL (n : Int) (k :: t).length = (n : Int) :: posL ((n + 1 : Nat) : Int) t.length := rfl
    rw [eL]
    cases ws with
    | nil => exact ih
    | cons r u =>
      by_cases e : r.1 = k
      · have e1 : plS (r :: u) k n = (r :: u) ++ [(k, (n : Int))] := if_pos e
        have e2 : psR (r :: u) n (k :: t) = psR (plS (r :: u) k n) (n + 1) t := by
          show plP (r :: u) k n ++ _ = _
          rw [show plP (r :: u) k n = [] from if_pos e]
          rfl
        rw [e2]
        show (_ ++ (_ ++ psW (plA (plS (r :: u) k n) (n + 1) t))).Perm _
        have e3 : psW (plS (r :: u) k n) ++ posL ((n + 1 : Nat) : Int) t.length = psW (r :: u) ++ (n : Int) :: posL ((n + 1 : Nat) : Int) t.length := by
          rw [e1]
          unfold psW
          rw [List.map_append, List.append_assoc]
          rfl
        rw [← e3]
        exact ih
      · have e1 : plS (r :: u) k n = u := if_neg e
        have e2 : psR (r :: u) n (k :: t) = (r.2, (n : Int)) :: psR (plS (r :: u) k n) (n + 1) t := by
          show plP (r :: u) k n ++ _ = _
          rw [show plP (r :: u) k n = [(r.2, (n : Int))] from if_neg e]
          rfl
        rw [e2]
        show (_ ++ (_ ++ psW (plA (plS (r :: u) k n) (n + 1) t))).Perm _
        rw [e1] at ih ⊢
        rw [List.map_cons, List.map_cons]
        show (r.2 :: ((psR u (n + 1) t).map (·.1) ++ ((n : Int) :: ((psR u (n + 1) t).map (·.2) ++ psW (plA u (n + 1) t))))).Perm (r.2 :: (psW u ++ (n : Int) :: posL ((n + 1 : Nat) : Int) t.length))
        exact .cons _ (List.perm_middle.trans ((List.Perm.cons _ ih).trans List.perm_middle.symm))
theorem posL_ge : ∀ (n : Nat) (a : Int), ∀ x ∈ posL a n, a ≤ x ∧ x < a + (n : Int)
  | 0, _, x, h => by cases h
  | n + 1, a, x, h => by
    rcases List.mem_cons.mp (show x ∈ a :: posL (a + 1) n from h) with z | z
    · omega
    · have := posL_ge n (a + 1) x z
      omega
theorem posL_nodup : ∀ (n : Nat) (a : Int), (posL a n).Nodup
  | 0, _ => List.nodup_nil
  | n + 1, a => by
    refine List.nodup_cons.mpr ⟨fun h => ?_, posL_nodup n (a + 1)⟩
    have := posL_ge n (a + 1) a h
    omega
theorem ps_nodup (ks : List Str) : ((psR [] 0 ks).map (·.1) ++ ((psR [] 0 ks).map (·.2) ++ psW (plA [] 0 ks))).Nodup := by
  have h := ps_perm ks [] 0
  exact h.symm.nodup (posL_nodup _ _)
theorem ps_count (ks : List Str) : 2 * (psR [] 0 ks).length + (plA [] 0 ks).length = ks.length := by
  have h := (ps_perm ks [] 0).length_eq
  rw [List.length_append, List.length_append, List.length_map, List.length_map, List.length_append, posL_len] at h
  have e : (psW (plA [] 0 ks)).length = (plA [] 0 ks).length := List.length_map _
  have e2 : (psW ([] : List Run)).length = 0 := rfl
  omega
theorem ps_snd : ∀ (ks : List Str) (ws : List Run) (n : Nat), ∀ p ∈ psR ws n ks, (n : Int) ≤ p.2 ∧ p.2 < (n : Int) + (ks.length : Int)
  | [], _, _, p, h => by cases h
  | k :: t, ws, n, p, h => by
    rw [List.length_cons]
    rcases List.mem_append.mp (show p ∈ plP ws k n ++ psR (plS ws k n) (n + 1) t from h) with z | z
    · have e : p.2 = (n : Int) := by
        cases ws with
        | nil => cases z
        | cons r u =>
          have z : p ∈ (if r.1 = k then [] else [(r.2, (n : Int))]) := z
          by_cases c : r.1 = k
          · rw [if_pos c] at z
            cases z
          · rw [if_neg c] at z
            rw [List.mem_singleton.mp z]
      omega
    · have := ps_snd t _ (n + 1) p z
      omega
theorem ps_filter (ks : List Str) (m : Nat) (h : m ≤ ks.length) : (psR [] 0 ks).filter (fun p => decide (p.2 < (m : Int))) = psR [] 0 (ks.take m) := by
  have e : psR [] 0 ks = psR [] 0 (ks.take m) ++ psR (plA [] 0 (ks.take m)) m (ks.drop m) := by
    have := psR_app (ks.take m) (ks.drop m) [] 0
    rw [List.take_append_drop, List.length_take, Nat.zero_add, Nat.min_eq_left h] at this
    exact this
  rw [e, List.filter_append]
  have f1 : (psR [] 0 (ks.take m)).filter (fun p => decide (p.2 < (m : Int))) = psR [] 0 (ks.take m) := by
    refine List.filter_eq_self.mpr fun p hp => decide_eq_true ?_
    have := ps_snd _ _ _ p hp
    rw [List.length_take] at this
    omega
  have f2 : (psR (plA [] 0 (ks.take m)) m (ks.drop m)).filter (fun p => decide (p.2 < (m : Int))) = [] := by
    refine List.filter_eq_nil_iff.mpr fun p hp z => ?_
    have := ps_snd _ _ _ p hp
    have := of_decide_eq_true z
    omega
  rw [f1, f2, List.append_nil]
theorem map_inj {α β : Type} {f : α → β} : ∀ {l : List α}, (l.map f).Nodup → ∀ {a b : α}, a ∈ l → b ∈ l → f a = f b → a = b
  | x :: t, h, a, b, ha, hb, e => by
    have h := List.nodup_cons.mp (show (f x :: t.map f).Nodup from h)
    rcases List.mem_cons.mp ha with h1 | h1
    · rcases List.mem_cons.mp hb with h2 | h2
      · rw [h1, h2]
      · exact absurd (List.mem_map.mpr ⟨b, h2, by rw [← e, h1]⟩) h.1
    · rcases List.mem_cons.mp hb with h2 | h2
      · exact absurd (List.mem_map.mpr ⟨a, h1, by rw [e, h2]⟩) h.1
      · exact map_inj h.2 h1 h2 e
/-- each position stands in one pair at most -/
structure U (P : List Pr) : Prop where
  fst : ∀ p ∈ P, ∀ q ∈ P, p.1 = q.1 → p = q
  snd : ∀ p ∈ P, ∀ q ∈ P, p.2 = q.2 → p = q
  dis : ∀ p ∈ P, ∀ q ∈ P, p.1 ≠ q.2
theorem u_ps (ks : List Str) : U (psR [] 0 ks) := by
  have h := ps_nodup ks
  obtain ⟨h1, h2, h3⟩ := List.nodup_append.mp h
  obtain ⟨h4, _, _⟩ := List.nodup_append.mp h2
  refine ⟨fun p hp q hq e => map_inj h1 hp hq e, fun p hp q hq e => map_inj h4 hp hq e, fun p hp q hq e => ?_⟩
  exact h3 _ (List.mem_map.mpr ⟨p, hp, rfl⟩) _ (List.mem_append.mpr (.inl (List.mem_map.mpr ⟨q, hq, rfl⟩))) e
theorem mem_zp : ∀ (n : Nat) (a b : Int) (p : Pr), p ∈ zpL (posL a n) b ↔ a ≤ p.1 ∧ p.1 < a + (n : Int) ∧ p.2 = b + p.1 - a
  | 0, a, b, p => by
    constructor
    · intro h
      cases h
    · intro h
      omega
  | n + 1, a, b, p => by
    have ih := mem_zp n (a + 1) (b + 1) p
    show p ∈ (a, b) :: zpL (posL (a + 1) n) (b + 1) ↔ _
    rw [List.mem_cons, ih]
    constructor
    · rintro (h | h)
      · rw [h]
        show a ≤ a ∧ a < a + ((n + 1 : Nat) : Int) ∧ b = b + a - a
        omega
      · omega
    · intro h
      by_cases c : p.1 = a
      · exact .inl (Prod.ext c (by show p.2 = b; omega))
      · exact .inr (by omega)
theorem mem_fl {x : Blk} (h : 0 < x.2.2) (p : Pr) : p ∈ flX x ↔ x.1 ≤ p.1 ∧ p.1 < x.1 + x.2.2 ∧ p.2 = x.2.1 + p.1 - x.1 := by
  unfold flX
  rw [mem_zp, show ((x.2.2.toNat : Nat) : Int) = x.2.2 by omega]
theorem pg_first : ∀ (B : List Blk) (p : Pr), PosB B → U (flB B) → p ∈ flB B → pgR B p.1 = some p.2
  | [], p, _, _, h => by cases h
  | x :: t, p, hB, u, h => by
    have hx := hB x (List.mem_cons_self ..)
    have mx := mem_fl hx
    show (if x.1 ≤ p.1 ∧ p.1 < x.1 + x.2.2 then some (x.2.1 + p.1 - x.1) else if x.2.1 ≤ p.1 ∧ p.1 < x.2.1 + x.2.2 then some (x.1 + p.1 - x.2.1) else pgR t p.1) = _
    by_cases c1 : x.1 ≤ p.1 ∧ p.1 < x.1 + x.2.2
    · rw [if_pos c1]
      have m : ((p.1, x.2.1 + p.1 - x.1) : Pr) ∈ flB (x :: t) := List.mem_append.mpr (.inl ((mx _).mpr ⟨c1.1, c1.2, rfl⟩))
      rw [← u.fst _ m _ h rfl]
    · rw [if_neg c1]
      by_cases c2 : x.2.1 ≤ p.1 ∧ p.1 < x.2.1 + x.2.2
      · have m : ((x.1 + p.1 - x.2.1, p.1) : Pr) ∈ flB (x :: t) := List.mem_append.mpr (.inl ((mx _).mpr ⟨by show x.1 ≤ x.1 + p.1 - x.2.1; omega, by show x.1 + p.1 - x.2.1 < _; omega, by show p.1 = x.2.1 + (x.1 + p.1 - x.2.1) - x.1; omega⟩))
        exact absurd rfl (u.dis _ h _ m)
      · rw [if_neg c2]
        rcases List.mem_append.mp (show p ∈ flX x ++ flB t from h) with z | z
        · have := (mx p).mp z
          exact absurd ⟨this.1, this.2.1⟩ c1
        · exact pg_first t p (fun y hy => hB y (List.mem_cons_of_mem _ hy)) ⟨fun a ha b hb => u.fst a (List.mem_append.mpr (.inr ha)) b (List.mem_append.mpr (.inr hb)), fun a ha b hb => u.snd a (List.mem_append.mpr (.inr ha)) b (List.mem_append.mpr (.inr hb)), fun a ha b hb => u.dis a (List.mem_append.mpr (.inr ha)) b (List.mem_append.mpr (.inr hb))⟩ z
theorem pg_second : ∀ (B : List Blk) (p : Pr), PosB B → U (flB B) → p ∈ flB B → pgR B p.2 = some p.1
  | [], p, _, _, h => by cases h
  | x :: t, p, hB, u, h => by
    have hx := hB x (List.mem_cons_self ..)
    have mx := mem_fl hx
    show (if x.1 ≤ p.2 ∧ p.2 < x.1 + x.2.2 then some (x.2.1 + p.2 - x.1) else if x.2.1 ≤ p.2 ∧ p.2 < x.2.1 + x.2.2 then some (x.1 + p.2 - x.2.1) else pgR t p.2) = _
    by_cases c1 : x.1 ≤ p.2 ∧ p.2 < x.1 + x.2.2
    · have m : ((p.2, x.2.1 + p.2 - x.1) : Pr) ∈ flB (x :: t) := List.mem_append.mpr (.inl ((mx _).mpr ⟨c1.1, c1.2, rfl⟩))
      exact absurd rfl (u.dis _ m _ h)
    · rw [if_neg c1]
      by_cases c2 : x.2.1 ≤ p.2 ∧ p.2 < x.2.1 + x.2.2
      · have m : ((x.1 + p.2 - x.2.1, p.2) : Pr) ∈ flB (x :: t) := List.mem_append.mpr (.inl ((mx _).mpr ⟨by show x.1 ≤ x.1 + p.2 - x.2.1; omega, by show x.1 + p.2 - x.2.1 < _; omega, by show p.2 = x.2.1 + (x.1 + p.2 - x.2.1) - x.1; omega⟩))
        rw [if_pos c2, ← u.snd _ m _ h rfl]
      · rw [if_neg c2]
        rcases List.mem_append.mp (show p ∈ flX x ++ flB t from h) with z | z
        · have := (mx p).mp z
          exact absurd ⟨by omega, by omega⟩ c2
        · exact pg_second t p (fun y hy => hB y (List.mem_cons_of_mem _ hy)) ⟨fun a ha b hb => u.fst a (List.mem_append.mpr (.inr ha)) b (List.mem_append.mpr (.inr hb)), fun a ha b hb => u.snd a (List.mem_append.mpr (.inr ha)) b (List.mem_append.mpr (.inr hb)), fun a ha b hb => u.dis a (List.mem_append.mpr (.inr ha)) b (List.mem_append.mpr (.inr hb))⟩ z
theorem pg_none : ∀ (B : List Blk) (m : Int), PosB B → (∀ p ∈ flB B, p.1 ≠ m ∧ p.2 ≠ m) → pgR B m = none
  | [], _, _, _ => rfl
  | x :: t, m, hB, h => by
    have hx := hB x (List.mem_cons_self ..)
    have mx := mem_fl hx
    show (if x.1 ≤ m ∧ m < x.1 + x.2.2 then some (x.2.1 + m - x.1) else if x.2.1 ≤ m ∧ m < x.2.1 + x.2.2 then some (x.1 + m - x.2.1) else pgR t m) = _
    by_cases c1 : x.1 ≤ m ∧ m < x.1 + x.2.2
    · have := h ((m, x.2.1 + m - x.1) : Pr) (List.mem_append.mpr (.inl ((mx _).mpr ⟨c1.1, c1.2, rfl⟩)))
      exact absurd rfl this.1
    · rw [if_neg c1]
      by_cases c2 : x.2.1 ≤ m ∧ m < x.2.1 + x.2.2
      · have := h ((x.1 + m - x.2.1, m) : Pr) (List.mem_append.mpr (.inl ((mx _).mpr ⟨by show x.1 ≤ x.1 + m - x.2.1; omega, by show x.1 + m - x.2.1 < _; omega, by show m = x.2.1 + (x.1 + m - x.2.1) - x.1; omega⟩)))
        exact absurd rfl this.2
      · rw [if_neg c2]
        exact pg_none t m (fun y hy => hB y (List.mem_cons_of_mem _ hy)) fun p hp => h p (List.mem_append.mpr (.inr hp))
end UP

set_option Elab.async false
set_option linter.all false
set_option maxRecDepth 100000
set_option maxHeartbeats 4000000
namespace UP
open PySem PySem.Spec PyProof.Rows L2
/-! ### dicts of pairs -/
theorem merge_hit {k : Key} {v : V} : ∀ (kvs acc : List (Key × V)), (∀ kv ∈ kvs, kv.1 = k → kv.2 = v) → (valV acc k = some v ∨ ∃ kv ∈ kvs, kv.1 = k) → valV (mergeK acc kvs) k = some v
  | [], acc, _, h => by
    rcases h with h | ⟨_, h, _⟩
    · exact h
    · cases h
  | x :: t, acc, hv, h => by
    show valV (mergeK (putK acc x.1 x.2) t) k = some v
    refine merge_hit t _ (fun kv hkv => hv kv (List.mem_cons_of_mem _ hkv)) ?_
    rw [valV_put]
    by_cases e : k = x.1
    · rw [if_pos e]
      exact .inl (by rw [hv x (List.mem_cons_self ..) e.symm])
    · rw [if_neg e]
      rcases h with h | ⟨kv, h, ek⟩
      · exact .inl h
      · rcases List.mem_cons.mp h with z | z
        · rw [z] at ek
          exact absurd ek.symm e
        · exact .inr ⟨kv, z, ek⟩
theorem merge_miss {k : Key} : ∀ (kvs acc : List (Key × V)), (∀ kv ∈ kvs, kv.1 ≠ k) → valV (mergeK acc kvs) k = valV acc k
  | [], acc, _ => rfl
  | x :: t, acc, hv => by
    show valV (mergeK (putK acc x.1 x.2) t) k = _
    rw [merge_miss t _ fun kv hkv => hv kv (List.mem_cons_of_mem _ hkv), valV_put, if_neg fun z => hv x (List.mem_cons_self ..) z.symm]
def kvP (P : List Pr) : List (Key × V) := P.map (fun p => (Sum.inl p.1, V.int p.2)) ++ P.map (fun p => (Sum.inl p.2, V.int p.1))
theorem mem_kvP {P : List Pr} {kv : Key × V} (h : kv ∈ kvP P) : ∃ p ∈ P, kv = (Sum.inl p.1, V.int p.2) ∨ kv = (Sum.inl p.2, V.int p.1) := by
  rcases List.mem_append.mp h with z | z
  · obtain ⟨p, hp, e⟩ := List.mem_map.mp z
    exact ⟨p, hp, .inl e.symm⟩
  · obtain ⟨p, hp, e⟩ := List.mem_map.mp z
    exact ⟨p, hp, .inr e.symm⟩
theorem inlI {a b : Int} (h : (Sum.inl a : Key) = Sum.inl b) : a = b := Sum.inl.inj h
/-- what the dict of the pairs says of a position -/
theorem dict_pairs {B : List Blk} {P : List Pr} (m : Int) (hB : PosB B) (e : flB B = P) (u : U P) : (valV (mergeK [] (kvP P)) (Sum.inl m)).getD .non = oI (pgR B m) := by
  subst e
  by_cases h1 : ∃ p ∈ flB B, p.1 = m
  · obtain ⟨p, hp, em⟩ := h1
    rw [← em, pg_first B p hB u hp, merge_hit (v := .int p.2) (kvP (flB B)) [] (fun kv hkv ek => ?_) (.inr ⟨(Sum.inl p.1, V.int p.2), List.mem_append.mpr (.inl (List.mem_map.mpr ⟨p, hp, rfl⟩)), rfl⟩)]
    · rfl
    · obtain ⟨q, hq, z | z⟩ := mem_kvP hkv
      · rw [z] at ek
        rw [z, u.fst q hq p hp (inlI ek)]
      · rw [z] at ek
        exact absurd (inlI ek).symm (u.dis p hp q hq)
  · by_cases h2 : ∃ p ∈ flB B, p.2 = m
    · obtain ⟨p, hp, em⟩ := h2
      rw [← em, pg_second B p hB u hp, merge_hit (v := .int p.1) (kvP (flB B)) [] (fun kv hkv ek => ?_) (.inr ⟨(Sum.inl p.2, V.int p.1), List.mem_append.mpr (.inr (List.mem_map.mpr ⟨p, hp, rfl⟩)), rfl⟩)]
      · rfl
      · obtain ⟨q, hq, z | z⟩ := mem_kvP hkv
        · rw [z] at ek
          exact absurd (inlI ek) (u.dis q hq p hp)
        · rw [z] at ek
          rw [z, u.snd q hq p hp (inlI ek)]
    · have no : ∀ p ∈ flB B, p.1 ≠ m ∧ p.2 ≠ m := fun p hp => ⟨fun z => h1 ⟨p, hp, z⟩, fun z => h2 ⟨p, hp, z⟩⟩
      rw [pg_none B m hB no, merge_miss (kvP (flB B)) [] fun kv hkv ek => ?_]
      · rfl
      · obtain ⟨q, hq, z | z⟩ := mem_kvP hkv
        · rw [z] at ek
          exact (no q hq).1 (inlI ek)
        · rw [z] at ek
          exact (no q hq).2 (inlI ek)
/-! ### the number of pairs -/
def pcR (rs : List Run) (m : Int) : Int := (m - numR (stR (cutR 0 m 0 rs) none)) / 2
theorem pos_none : PosO none := fun r h => by cases h
theorem pc_at {rs : List Run} {m : Nat} (k : ∀ r ∈ rs, 1 ≤ r.2) (h : m ≤ (itR rs).length) : pcR rs (m : Int) = ((psR [] 0 ((itR rs).take m)).length : Int) := by
  have e1 := at_moment (m := m) pos_none k
  have e2 := ps_count ((itR rs).take m)
  rw [List.length_take, Nat.min_eq_left h] at e2
  unfold pcR
  rw [e1, told_len]
  show ((m : Int) - ((plA [] 0 ((itR rs).take m)).length : Int)) / 2 = _
  omega
theorem dt_int {H : Hp} {n : Nat} {i : Int} : Dt H n (.int i) (.int i) := by
  cases n with
  | zero => exact .inr (.inr (.inl ⟨_, rfl, rfl⟩))
  | succ m => exact .inl (.inr (.inr (.inl ⟨_, rfl, rfl⟩)))
theorem dt_oI {H : Hp} {n : Nat} (z : Option Int) : ∃ d, Dt H n (oI z) d := by
  cases z with
  | none =>
    cases n with
    | zero => exact ⟨_, .inl ⟨rfl, rfl⟩⟩
    | succ m => exact ⟨_, .inl (.inl ⟨rfl, rfl⟩)⟩
  | some i => exact ⟨_, dt_int⟩
theorem dt_two {H : Hp} {a : Addr} {i j : Int} (h : H a = some (.lst [.int i, .int j])) : Dt H 2 (.ref a) (.list [.int i, .int j]) := .inr (.inl ⟨a, _, _, rfl, h, rfl, .cons dt_int (.cons dt_int .nil), Nat.le_of_ble_eq_true rfl⟩)
section
variable {P : Program} {w : World} {K : PySem.W.Frag} {mg : Str → Option Value} {base : Heap}
end
end UP

set_option Elab.async false
set_option linter.all false
set_option maxRecDepth 100000
set_option maxHeartbeats 4000000
namespace UP
open PySem PySem.Spec PyProof.Rows L2
def cntB (B : List Blk) : Int := (B.map (·.2.2)).sum
theorem cntB_cons (x : Blk) (t : List Blk) : cntB (x :: t) = x.2.2 + cntB t := by
  unfold cntB
  rw [List.map_cons, List.sum_cons]
theorem zpL_len : ∀ (l : List Int) (b : Int), (zpL l b).length = l.length
  | [], _ => rfl
  | _ :: t, b => congrArg Nat.succ (zpL_len t (b + 1))
theorem flX_len (x : Blk) : (flX x).length = x.2.2.toNat := by
  unfold flX
  rw [zpL_len, posL_len]
theorem cnt_fl : ∀ (B : List Blk), PosB B → cntB B = ((flB B).length : Int)
  | [], _ => rfl
  | x :: t, h => by
    have hx := h x (List.mem_cons_self ..)
    rw [cntB_cons, cnt_fl t fun y hy => h y (List.mem_cons_of_mem _ hy)]
    show _ = ((flX x ++ flB t).length : Int)
    rw [List.length_append, flX_len]
    omega
theorem zp_get : ∀ (n : Nat) (a b : Int) (i : Nat), i < n → (zpL (posL a n) b)[i]? = some (a + (i : Int), b + (i : Int))
  | 0, _, _, _, h => by omega
  | n + 1, a, b, 0, _ => by
    show some (a, b) = _
    rw [show a + ((0 : Nat) : Int) = a by omega, show b + ((0 : Nat) : Int) = b by omega]
  | n + 1, a, b, i + 1, h => by
    show (zpL (posL (a + 1) n) (b + 1))[i]? = _
    rw [zp_get n (a + 1) (b + 1) i (by omega), show a + 1 + (i : Int) = a + ((i + 1 : Nat) : Int) by omega, show b + 1 + (i : Int) = b + ((i + 1 : Nat) : Int) by omega]
section
variable {P : Program} {w : World} {K : PySem.W.Frag} {mg : Str → Option Value} {base : Heap}
end
end UP

set_option Elab.async false
set_option linter.all false
set_option maxRecDepth 100000
set_option maxHeartbeats 4000000
namespace UP
open PySem PySem.Spec PyProof.Rows L2
/-! ### blocks, pair by pair -/
def addU (B : List Blk) (P : List Pr) : List Blk := P.foldl (fun F p => addB F (p.1, p.2, 1)) B
theorem addB_nil (x : Blk) : addB [] x = [x] := rfl
theorem addB_join {B : List Blk} {l x : Blk} (h : l.1 + l.2.2 = x.1 ∧ l.2.1 + l.2.2 = x.2.1) : addB (B ++ [l]) x = B ++ [(l.1, l.2.1, l.2.2 + x.2.2)] := by
  unfold addB
  rw [List.getLast?_concat, List.dropLast_concat]
  exact if_pos h
theorem addB_new {B : List Blk} {l x : Blk} (h : ¬ (l.1 + l.2.2 = x.1 ∧ l.2.1 + l.2.2 = x.2.1)) : addB (B ++ [l]) x = (B ++ [l]) ++ [x] := by
  unfold addB
  rw [List.getLast?_concat]
  exact if_neg h
theorem add_add (B : List Blk) (a b k : Int) : addB (addB B (a, b, 1)) (a + 1, b + 1, k) = addB B (a, b, 1 + k) := by
  rcases shaped_not (B := B) with e | ⟨B0, l, e⟩
  · subst e
    exact addB_join (B := []) (l := (a, b, 1)) ⟨rfl, rfl⟩
  · subst e
    by_cases c : l.1 + l.2.2 = a ∧ l.2.1 + l.2.2 = b
    · rw [addB_join (x := (a, b, 1)) c, addB_join (x := (a, b, 1 + k)) c, addB_join (x := (a + 1, b + 1, k)) ⟨by show l.1 + (l.2.2 + 1) = a + 1; omega, by show l.2.1 + (l.2.2 + 1) = b + 1; omega⟩]
      show B0 ++ [(l.1, l.2.1, l.2.2 + 1 + k)] = B0 ++ [(l.1, l.2.1, l.2.2 + (1 + k))]
      rw [Int.add_assoc]
    · rw [addB_new (x := (a, b, 1)) c, addB_new (x := (a, b, 1 + k)) c]
      exact addB_join (B := B0 ++ [l]) (l := (a, b, 1)) ⟨rfl, rfl⟩
theorem unit_add : ∀ (c : Nat) (a b : Int) (B : List Blk), addU B (zpL (posL a (c + 1)) b) = addB B (a, b, (c : Int) + 1)
  | 0, a, b, B => rfl
  | c + 1, a, b, B => by
    show addU (addB B (a, b, 1)) (zpL (posL (a + 1) (c + 1)) (b + 1)) = _
    rw [unit_add c, add_add, show (1 : Int) + ((c : Int) + 1) = ((c + 1 : Nat) : Int) + 1 by omega]
theorem addU_app (B : List Blk) (P Q : List Pr) : addU B (P ++ Q) = addU (addU B P) Q := List.foldl_append ..
theorem adds_units : ∀ (xs B : List Blk), PosB xs → addsB B xs = addU B (flB xs)
  | [], _, _ => rfl
  | x :: t, B, h => by
    have hx := h x (List.mem_cons_self ..)
    obtain ⟨c, hc⟩ : ∃ c : Nat, x.2.2.toNat = c + 1 := ⟨x.2.2.toNat - 1, by omega⟩
    show addsB (addB B x) t = addU B (flX x ++ flB t)
    rw [addU_app, adds_units t _ fun y hy => h y (List.mem_cons_of_mem _ hy)]
    congr 1
    unfold flX
    rw [hc, unit_add, show (c : Int) + 1 = x.2.2 by omega]
theorem all_units : ∀ (rs : List Run) (ws : List Run) (R : List Rg) (n : Nat) (B : List Blk), Uni ws → flR R = psW ws → Gd R (n : Int) → (∀ r ∈ rs, 1 ≤ r.2) → Alt rs → (∀ l, R.getLast? = some l → l.2 = (n : Int) - 1 → ∀ x r, toldR ws = some x → rs.head? = some r → x.1 ≠ r.1) →
    boR rs (toldR ws) (n : Int) R B = addU B (psR ws n (itR rs))
  | [], ws, R, n, B, _, _, _, _, _, _ => rfl
  | r :: t, ws, R, n, B, u, fl, g, k, alt, bd => by
    have c1 := k r (List.mem_cons_self ..)
    obtain ⟨h1, h2, h3⟩ := one_run (r := r) u fl g c1 fun l hl hz x hx => bd l hl hz x r hx rfl
    have a1 := adds_units (brR R (n : Int) (leavR (toldR ws) r.1 r.2)) B (pos_brR _ _ _)
    rw [pairs_run u fl g c1] at a1
    have e : itR (r :: t) = List.replicate r.2.toNat r.1 ++ itR t := rfl
    have cn : ((n + r.2.toNat : Nat) : Int) = (n : Int) + r.2 := by omega
    have told' : toldR (plA ws n (List.replicate r.2.toNat r.1)) = stepR (toldR ws) r.1 r.2 := by
      have nn : PosO (toldR ws) := by
        intro x hx
        cases ws with
        | nil => cases hx
        | cons y t =>
          cases hx
          show 1 ≤ (((y :: t).length : Nat) : Int)
          rw [List.length_cons]
          omega
      obtain ⟨c, hc⟩ : ∃ c : Nat, r.2.toNat = c + 1 := ⟨r.2.toNat - 1, by omega⟩
      rw [told_plA _ _ _ u, hc, it_step c _ _ nn, show (c : Int) + 1 = r.2 by omega]
    have ih := all_units t (plA ws n (List.replicate r.2.toNat r.1)) _ (n + r.2.toNat) (addsB B (brR R (n : Int) (leavR (toldR ws) r.1 r.2))) (uni_plA _ _ _ u) h1 (by rw [cn]; exact h2) (fun x hx => k x (List.mem_cons_of_mem _ hx)) (fun i x y hx hy => alt (i + 1) x y hx hy) (fun l hl hz x r' hx hr' => by
      have ex := h3 l hl (by omega) x hx
      rw [ex]
      refine alt 0 r r' rfl ?_
      cases t with
      | nil => cases hr'
      | cons y s => exact hr')
    rw [cn, told'] at ih
    rw [e, psR_app, List.length_replicate, addU_app, ← a1]
    exact ih
theorem whole_units {rs : List Run} (k : ∀ r ∈ rs, 1 ≤ r.2) (a : Alt rs) : blR rs = addU [] (psR [] 0 (itR rs)) :=
  all_units rs [] [] 0 [] (fun x hx => by cases hx) rfl trivial k a (fun l hl => by cases hl)
/-! ### all counts multiplied -/
def scX (t : Int) (x : Blk) : Blk := (x.1 * t, x.2.1 * t, x.2.2 * t)
def scB (t : Int) (B : List Blk) : List Blk := B.map (scX t)
theorem eq_sc {a b t : Int} (ht : 0 < t) : a * t = b * t ↔ a = b :=
  ⟨fun z => Int.le_antisymm ((le_sc ht).mp (by omega)) ((le_sc ht).mp (by omega)), fun z => by rw [z]⟩
theorem addB_sc {t : Int} (ht : 0 < t) (B : List Blk) (x : Blk) : addB (scB t B) (scX t x) = scB t (addB B x) := by
  rcases shaped_not (B := B) with e | ⟨B0, l, e⟩
  · subst e
    rfl
  · subst e
    have e1 : scB t (B0 ++ [l]) = scB t B0 ++ [scX t l] := List.map_append ..
    rw [e1]
    have i1 : (scX t l).1 + (scX t l).2.2 = (scX t x).1 ↔ l.1 + l.2.2 = x.1 := by
      show l.1 * t + l.2.2 * t = x.1 * t ↔ _
      rw [← Int.add_mul]
      exact eq_sc ht
    have i2 : (scX t l).2.1 + (scX t l).2.2 = (scX t x).2.1 ↔ l.2.1 + l.2.2 = x.2.1 := by
      show l.2.1 * t + l.2.2 * t = x.2.1 * t ↔ _
      rw [← Int.add_mul]
      exact eq_sc ht
    by_cases c : l.1 + l.2.2 = x.1 ∧ l.2.1 + l.2.2 = x.2.1
    · rw [addB_join c, addB_join ⟨i1.mpr c.1, i2.mpr c.2⟩]
      show _ = List.map (scX t) (B0 ++ [_])
      rw [List.map_append]
      show scB t B0 ++ [(l.1 * t, l.2.1 * t, l.2.2 * t + x.2.2 * t)] = scB t B0 ++ [(l.1 * t, l.2.1 * t, (l.2.2 + x.2.2) * t)]
      rw [Int.add_mul]
    · rw [addB_new c, addB_new fun z => c ⟨i1.mp z.1, i2.mp z.2⟩]
      show _ = List.map (scX t) ((B0 ++ [l]) ++ [x])
      rw [List.map_append, List.map_append]
      rfl
theorem adds_sc {t : Int} (ht : 0 < t) : ∀ (xs B : List Blk), addsB (scB t B) (scB t xs) = scB t (addsB B xs)
  | [], _ => rfl
  | x :: u, B => by
    show addsB (addB (scB t B) (scX t x)) (scB t u) = scB t (addsB (addB B x) u)
    rw [addB_sc ht, adds_sc ht u]
theorem brP_sc {t : Int} (ht : 0 < t) (p : Rg) (b n : Int) : brP (p.1 * t, p.2 * t + t - 1) (b * t) (n * t) = scB t (brP p b n) := by
  unfold brP
  rw [rm_sc ht]
  by_cases c : 0 < rmR p n
  · rw [if_pos c, if_pos ((pos_sc ht).mpr c)]
    rfl
  · rw [if_neg c, if_neg fun z => c ((pos_sc ht).mp z)]
    rfl
theorem brR_sc {t : Int} (ht : 0 < t) : ∀ (R : List Rg) (b n : Int), brR (scP t R) (b * t) (n * t) = scB t (brR R b n)
  | [], _, _ => rfl
  | p :: u, b, n => by
    show brP (p.1 * t, p.2 * t + t - 1) (b * t) (n * t) ++ brR (scP t u) (b * t + rmR (p.1 * t, p.2 * t + t - 1) (n * t)) (n * t - rmR (p.1 * t, p.2 * t + t - 1) (n * t)) = List.map (scX t) (brP p b n ++ brR u (b + rmR p n) (n - rmR p n))
    rw [brP_sc ht, rm_sc ht, ← Int.sub_mul, ← Int.add_mul, brR_sc ht u, List.map_append]
    rfl
theorem boR_sc {t : Int} (ht : 0 < t) : ∀ (rs : List Run) (st : Option Run) (b : Int) (R : List Rg) (B : List Blk), boR (scR t rs) (scO t st) (b * t) (scP t R) (scB t B) = scB t (boR rs st b R B)
  | [], _, _, _, _ => rfl
  | r :: u, st, b, R, B => by
    show boR (scR t u) (stepR (scO t st) r.1 (r.2 * t)) (b * t + r.2 * t) (wfR (scP t R) (leavR (scO t st) r.1 (r.2 * t)) ++ adP (scO t st) (b * t) (r.1, r.2 * t)) (addsB (scB t B) (brR (scP t R) (b * t) (leavR (scO t st) r.1 (r.2 * t)))) = scB t (boR u (stepR st r.1 r.2) (b + r.2) (wfR R (leavR st r.1 r.2) ++ adP st b r) (addsB B (brR R b (leavR st r.1 r.2))))
    rw [step_sc ht, ← Int.add_mul, leav_sc ht, wfR_sc ht, adP_sc ht, brR_sc ht, adds_sc ht]
    have e : scP t (wfR R (leavR st r.1 r.2)) ++ scP t (adP st b r) = scP t (wfR R (leavR st r.1 r.2) ++ adP st b r) := by
      unfold scP
      rw [List.map_append]
    rw [e, boR_sc ht u]
theorem blR_sc {t : Int} (ht : 0 < t) (rs : List Run) : blR (scR t rs) = scB t (blR rs) := by
  have := boR_sc ht rs none 0 [] []
  rw [Int.zero_mul] at this
  exact this
/-- the blocks of multiplied pairs -/
def lbR (t : Int) (P : List Pr) : List Blk := P.foldl (fun F p => addB F (p.1 * t, p.2 * t, t)) []
theorem lbR_snoc (t : Int) (P : List Pr) (p : Pr) : lbR t (P ++ [p]) = addB (lbR t P) (p.1 * t, p.2 * t, t) := by
  unfold lbR
  rw [List.foldl_append]
  rfl
theorem lbR_sc {t : Int} (ht : 0 < t) (P : List Pr) : lbR t P = scB t (addU [] P) := by
  have gen : ∀ (P : List Pr) (F : List Blk), P.foldl (fun F p => addB F (p.1 * t, p.2 * t, t)) (scB t F) = scB t (addU F P) := by
    intro P
    induction P with
    | nil => intro F; rfl
    | cons p u ih =>
      intro F
      have e := addB_sc ht F (p.1, p.2, 1)
      have e2 : scX t (p.1, p.2, 1) = (p.1 * t, p.2 * t, t) := by
        show (p.1 * t, p.2 * t, 1 * t) = _
        rw [Int.one_mul]
      rw [e2] at e
      show u.foldl (fun F p => addB F (p.1 * t, p.2 * t, t)) (addB (scB t F) (p.1 * t, p.2 * t, t)) = scB t (addU (addB F (p.1, p.2, 1)) u)
      rw [e, ih]
  exact gen P []
theorem lbR_len (t : Int) (P : List Pr) : (lbR t P).length ≤ P.length := by
  have gen : ∀ (P : List Pr) (F : List Blk), (P.foldl (fun F p => addB F (p.1 * t, p.2 * t, t)) F).length ≤ F.length + P.length := by
    intro P
    induction P with
    | nil => intro F; exact Nat.le_refl _
    | cons p u ih =>
      intro F
      have h1 := ih (addB F (p.1 * t, p.2 * t, t))
      have h2 := addB_len F (p.1 * t, p.2 * t, t)
      show (u.foldl (fun F p => addB F (p.1 * t, p.2 * t, t)) (addB F (p.1 * t, p.2 * t, t))).length ≤ _
      rw [List.length_cons]
      omega
  have := gen P []
  rw [List.length_nil, Nat.zero_add] at this
  exact this
theorem lbR_pos {t : Int} (ht : 0 < t) (P : List Pr) : PosB (lbR t P) := by
  have gen : ∀ (P : List Pr) (F : List Blk), PosB F → PosB (P.foldl (fun F p => addB F (p.1 * t, p.2 * t, t)) F) := by
    intro P
    induction P with
    | nil => intro F h; exact h
    | cons p u ih =>
      intro F h
      exact ih _ (fl_add (x := (p.1 * t, p.2 * t, t)) h ht).2
  exact gen P [] (fun x h => by cases h)
theorem whole_lb {rs : List Run} {t : Int} (ht : 0 < t) (k : ∀ r ∈ rs, 1 ≤ r.2) (a : Alt rs) : blR (scR t rs) = lbR t (psR [] 0 (itR rs)) := by
  rw [blR_sc ht, whole_units k a, lbR_sc ht]
/-! ### pairs of a multiplied sequence -/
def exP (t : Int) (P : List Pr) : List Pr := P.flatMap fun p => zpL (posL (p.1 * t) t.toNat) (p.2 * t)
theorem exP_cons (t : Int) (p : Pr) (P : List Pr) : exP t (p :: P) = zpL (posL (p.1 * t) t.toNat) (p.2 * t) ++ exP t P := rfl
theorem exP_app (t : Int) (P Q : List Pr) : exP t (P ++ Q) = exP t P ++ exP t Q := List.flatMap_append ..
theorem ex_zp {t : Int} (ht : 0 < t) : ∀ (c : Nat) (a b : Int), exP t (zpL (posL a c) b) = zpL (posL (a * t) (c * t.toNat)) (b * t)
  | 0, a, b => by
    rw [Nat.zero_mul]
    rfl
  | c + 1, a, b => by
    show zpL (posL (a * t) t.toNat) (b * t) ++ exP t (zpL (posL (a + 1) c) (b + 1)) = _
    rw [ex_zp ht c, Nat.succ_mul, Nat.add_comm, posL_app, zpL_app, posL_len, Int.add_mul, Int.add_mul, Int.one_mul, show ((t.toNat : Nat) : Int) = t by omega]
theorem fl_sc {t : Int} (ht : 0 < t) : ∀ (B : List Blk), PosB B → flB (scB t B) = exP t (flB B)
  | [], _ => rfl
  | x :: u, h => by
    have hx := h x (List.mem_cons_self ..)
    show flX (scX t x) ++ flB (scB t u) = exP t (flX x ++ flB u)
    rw [exP_app, fl_sc ht u fun y hy => h y (List.mem_cons_of_mem _ hy)]
    congr 1
    unfold flX
    rw [ex_zp ht]
    show zpL (posL (x.1 * t) (x.2.2 * t).toNat) (x.2.1 * t) = _
    rw [Int.toNat_mul (by omega) (by omega)]
theorem ex_len {t : Int} (P : List Pr) : (exP t P).length = P.length * t.toNat := by
  induction P with
  | nil => rw [List.length_nil, Nat.zero_mul]; rfl
  | cons p u ih => rw [exP_cons, List.length_append, ih, zpL_len, posL_len, List.length_cons, Nat.succ_mul, Nat.add_comm]
theorem ex_get {t : Int} : ∀ (P : List Pr) (i r : Nat) (p : Pr), P[i]? = some p → r < t.toNat → (exP t P)[i * t.toNat + r]? = some (p.1 * t + (r : Int), p.2 * t + (r : Int))
  | [], _, _, _, h, _ => by simp at h
  | x :: u, 0, r, p, h, hr => by
    have e : x = p := Option.some.inj h
    subst e
    rw [Nat.zero_mul, Nat.zero_add, exP_cons, List.getElem?_append_left (by rw [zpL_len, posL_len]; exact hr), zp_get _ _ _ _ hr]
  | x :: u, i + 1, r, p, h, hr => by
    have h : u[i]? = some p := h
    rw [exP_cons, List.getElem?_append_right (by rw [zpL_len, posL_len, Nat.succ_mul]; omega), zpL_len, posL_len, Nat.succ_mul, show i * t.toNat + t.toNat + r - t.toNat = i * t.toNat + r by omega]
    exact ex_get u i r p h hr
theorem ex_mem {t : Int} (ht : 0 < t) {P : List Pr} {q : Pr} (h : q ∈ exP t P) : ∃ p ∈ P, ∃ j : Int, 0 ≤ j ∧ j < t ∧ q = (p.1 * t + j, p.2 * t + j) := by
  obtain ⟨p, hp, hq⟩ := List.mem_flatMap.mp h
  have := (mem_zp _ _ _ q).mp hq
  rw [show ((t.toNat : Nat) : Int) = t by omega] at this
  exact ⟨p, hp, q.1 - p.1 * t, by omega, by omega, Prod.ext (by show q.1 = p.1 * t + (q.1 - p.1 * t); omega) (by show q.2 = p.2 * t + (q.1 - p.1 * t); omega)⟩
theorem same_item {a b j r t : Int} (ht : 0 < t) (j0 : 0 ≤ j) (j1 : j < t) (r0 : 0 ≤ r) (r1 : r < t) (e : a * t + j = b * t + r) : a = b := by
  rcases Int.lt_trichotomy a b with c | c | c
  · have := (le_sc (a := a + 1) (b := b) ht).mpr (by omega)
    rw [Int.add_mul, Int.one_mul] at this
    omega
  · exact c
  · have := (le_sc (a := b + 1) (b := a) ht).mpr (by omega)
    rw [Int.add_mul, Int.one_mul] at this
    omega
theorem ps_sorted : ∀ (ks : List Str) (ws : List Run) (n : Nat), (psR ws n ks).Pairwise fun p q => p.2 < q.2
  | [], _, _ => List.Pairwise.nil
  | k :: t, ws, n => by
    show (plP ws k n ++ psR (plS ws k n) (n + 1) t).Pairwise _
    have ih := ps_sorted t (plS ws k n) (n + 1)
    have bd := ps_snd t (plS ws k n) (n + 1)
    cases ws with
    | nil => exact ih
    | cons r u =>
      by_cases c : r.1 = k
      · rw [show plP (r :: u) k n = [] from if_pos c]
        exact ih
      · rw [show plP (r :: u) k n = [(r.2, (n : Int))] from if_neg c]
        refine List.Pairwise.cons (fun q hq => ?_) ih
        have := bd q hq
        show (n : Int) < q.2
        omega
theorem sorted_at : ∀ {P : List Pr} {k : Nat} {p : Pr}, P.Pairwise (fun p q => p.2 < q.2) → P[k]? = some p → (P.filter fun q => decide (q.2 < p.2)).length = k
  | x :: t, 0, p, h, e => by
    have e : x = p := Option.some.inj e
    subst e
    have h := List.pairwise_cons.mp h
    rw [List.length_eq_zero_iff, List.filter_eq_nil_iff]
    intro q hq z
    have z := of_decide_eq_true z
    rcases List.mem_cons.mp hq with w | w
    · rw [w] at z
      omega
    · have := h.1 q w
      omega
  | x :: t, k + 1, p, h, e => by
    have e : t[k]? = some p := e
    have h := List.pairwise_cons.mp h
    have lt := h.1 p (List.mem_of_getElem? e)
    rw [List.filter_cons, if_pos (decide_eq_true lt), List.length_cons, sorted_at h.2 e]
theorem scR_pos {t : Int} {rs : List Run} (t1 : 1 ≤ t) (k : ∀ r ∈ rs, 1 ≤ r.2) : ∀ r ∈ scR t rs, 1 ≤ r.2 := by
  intro r hr
  obtain ⟨x, hx, rfl⟩ := List.mem_map.mp hr
  have c1 := k x hx
  show 1 ≤ x.2 * t
  have := Int.mul_le_mul c1 t1 (by decide) (by omega)
  omega
theorem scR_alt {t : Int} {rs : List Run} (a : Alt rs) : Alt (scR t rs) := by
  intro i x y hx hy
  unfold scR at hx hy
  rw [List.getElem?_map] at hx hy
  cases e1 : rs[i]? with
  | none => rw [e1] at hx; cases hx
  | some a' =>
    cases e2 : rs[i + 1]? with
    | none => rw [e2] at hy; cases hy
    | some b' =>
      rw [e1] at hx
      rw [e2] at hy
      cases hx
      cases hy
      exact a i a' b' e1 e2
/-- all that is told of a multiplied sequence's pairs -/
structure Mul (t : Int) (rs : List Run) : Prop where
  lb : blR (scR t rs) = lbR t (psR [] 0 (itR rs))
  fl : flB (blR (scR t rs)) = exP t (psR [] 0 (itR rs))
  ps : psR [] 0 (itR (scR t rs)) = exP t (psR [] 0 (itR rs))
  pb : PosB (blR (scR t rs))
theorem mul_of {t : Int} {rs : List Run} (t1 : 1 ≤ t) (k : ∀ r ∈ rs, 1 ≤ r.2) (a : Alt rs) : Mul t rs := by
  have ht : 0 < t := by omega
  obtain ⟨w1, w2⟩ := whole_pairs k a
  obtain ⟨v1, v2⟩ := whole_pairs (scR_pos t1 k) (scR_alt (t := t) a)
  have f : flB (blR (scR t rs)) = exP t (psR [] 0 (itR rs)) := by rw [blR_sc ht, fl_sc ht _ w2, w1]
  exact ⟨whole_lb ht k a, f, by rw [← v1, f], v2⟩
theorem pc_count {rs : List Run} {k : Nat} {p : Pr} (pos : ∀ r ∈ rs, 1 ≤ r.2) (h : (psR [] 0 (itR rs))[k]? = some p) : 0 ≤ p.2 ∧ p.2 < lenR rs ∧ pcR rs p.2 = (k : Int) := by
  have b := ps_snd _ _ _ p (List.mem_of_getElem? h)
  have l := len_it rs pos
  have pm : ((p.2.toNat : Nat) : Int) = p.2 := by omega
  have e1 := pc_at (m := p.2.toNat) pos (by omega)
  rw [pm] at e1
  refine ⟨by omega, by omega, ?_⟩
  rw [e1, ← ps_filter _ _ (by omega), pm, sorted_at (ps_sorted _ _ _) h]
theorem pair_in {rs : List Run} {p : Pr} (pos : ∀ r ∈ rs, 1 ≤ r.2) (h : p ∈ psR [] 0 (itR rs)) : 0 ≤ p.1 ∧ p.1 < lenR rs ∧ 0 ≤ p.2 ∧ p.2 < lenR rs := by
  have l := len_it rs pos
  have pm := ps_perm (itR rs) [] 0
  have b1 := posL_ge _ _ p.1 (pm.mem_iff.mp (List.mem_append.mpr (.inl (List.mem_map.mpr ⟨p, h, rfl⟩))))
  have b2 := posL_ge _ _ p.2 (pm.mem_iff.mp (List.mem_append.mpr (.inr (List.mem_append.mpr (.inl (List.mem_map.mpr ⟨p, h, rfl⟩))))))
  omega
theorem wait_in {rs : List Run} {r : Run} (pos : ∀ r ∈ rs, 1 ≤ r.2) (h : r ∈ plA [] 0 (itR rs)) : 0 ≤ r.2 ∧ r.2 < lenR rs ∧ ∀ p ∈ psR [] 0 (itR rs), p.1 ≠ r.2 ∧ p.2 ≠ r.2 := by
  have l := len_it rs pos
  have pm := ps_perm (itR rs) [] 0
  have hr : r.2 ∈ psW (plA [] 0 (itR rs)) := List.mem_map.mpr ⟨r, h, rfl⟩
  have b1 := posL_ge _ _ r.2 (pm.mem_iff.mp (List.mem_append.mpr (.inr (List.mem_append.mpr (.inr hr)))))
  refine ⟨by omega, by omega, fun p hp => ?_⟩
  obtain ⟨_, h2, h3⟩ := List.nodup_append.mp (ps_nodup (itR rs))
  obtain ⟨_, _, h6⟩ := List.nodup_append.mp h2
  exact ⟨h3 _ (List.mem_map.mpr ⟨p, hp, rfl⟩) _ (List.mem_append.mpr (.inr hr)), h6 _ (List.mem_map.mpr ⟨p, hp, rfl⟩) _ hr⟩
end UP

set_option Elab.async false
set_option linter.all false
set_option maxRecDepth 100000
set_option maxHeartbeats 4000000
set_option pp.maxSteps 300
namespace UP
open PySem PySem.Spec PyProof.Rows L2
/-! ### the bag: a list of the cells, the next one, the rest of a large one, the number of draws, a mixed number -/
structure BagS where
  ns : List Int
  i : Int
  r : Int
  d : Int
  t : Int
def Bag (H : Hp) (p cl : Addr) (n : Nat) : Prop := ∃ b : BagS, H p = some (.lst [.ref cl, .int b.i, .int b.r, .int b.d, .int b.t]) ∧ H cl = some (.lst (b.ns.map V.int)) ∧ b.ns.length ≤ 63 ∧ 0 ≤ b.i ∧ b.i ≤ b.ns.length ∧ 0 ≤ b.r ∧ 0 ≤ b.d ∧ b.d ≤ n ∧ 0 ≤ b.t ∧ b.t < 2305843009213693951
theorem Bag.same {H H' : Hp} {p cl : Addr} {n : Nat} (z : Bag H p cl n) (s : Same H H') : Bag H' p cl n := by
  obtain ⟨b, h1, h2, r⟩ := z
  exact ⟨b, s _ _ h1, s _ _ h2, r⟩
theorem Bag.mono {H : Hp} {p cl : Addr} {n m : Nat} (z : Bag H p cl n) (l : n ≤ m) : Bag H p cl m := by
  obtain ⟨b, h1, h2, h3, h4, h5, h6, h7, h8, h9⟩ := z
  exact ⟨b, h1, h2, h3, h4, h5, h6, h7, by omega, h9⟩
theorem Bag.ne {H : Hp} {p cl q : Addr} {n : Nat} (z : Bag H p cl n) (h : H q = none) : q ≠ p := by
  obtain ⟨b, h1, _⟩ := z
  exact (ne_of_none h1 h).symm
theorem bag_ints {cl : Addr} {a b c d : Int} {ns : List Int} : HO.lst (ns.map V.int) ≠ .lst [.ref cl, .int a, .int b, .int c, .int d] := by
  intro q
  cases ns with
  | nil => cases q
  | cons x t => cases q
theorem Bag.cl_ne {H : Hp} {p cl : Addr} {n : Nat} (z : Bag H p cl n) : cl ≠ p := by
  obtain ⟨b, h1, h2, _⟩ := z
  exact ne_of h2 h1 bag_ints
/-- what is kept apart from the bag's list keeps the bag -/
theorem Bag.keep {H H' : Hp} {p cl : Addr} {n : Nat} (z : Bag H p cl n) (k : ∀ o, H p = some o → H' p = some o) (c : ∀ o, H cl = some o → H' cl = some o) : Bag H' p cl n := by
  obtain ⟨b, h1, h2, r⟩ := z
  exact ⟨b, k _ h1, c _ h2, r⟩
theorem at50 {α : Type} {x y z u w : α} : atI [x, y, z, u, w] 0 = some x := rfl
theorem at51 {α : Type} {x y z u w : α} : atI [x, y, z, u, w] 1 = some y := rfl
theorem at52 {α : Type} {x y z u w : α} : atI [x, y, z, u, w] 2 = some z := rfl
theorem at53 {α : Type} {x y z u w : α} : atI [x, y, z, u, w] 3 = some u := rfl
theorem at54 {α : Type} {x y z u w : α} : atI [x, y, z, u, w] 4 = some w := rfl
theorem atI_ofB {α : Type} {l : List α} {i : Int} {x : α} (h0 : 0 ≤ i) (h : l[i.toNat]? = some x) : atI l i = some x := by
  have : i < l.length := by
    obtain ⟨q, _⟩ := List.getElem?_eq_some_iff.mp h
    omega
  unfold atI ixN
  rw [if_pos h0, if_pos (by omega)]
  exact h
theorem p18 : (10 : Int) ^ ((18 : Int).toNat) = 1000000000000000000 := by decide +kernel
theorem wideB {m : Int} (h0 : 0 ≤ m) (h1 : m ≤ 1000000000000000000000000000000000000000000000000000000000000) : m.natAbs < 2 ^ 8000 :=
  Nat.lt_of_le_of_lt (m := 1000000000000000000000000000000000000000000000000000000000000) (by omega) (by decide +kernel)
section
variable {P : Program} {w : World} {K : PySem.W.Frag} {mg : Str → Option Value} {base : Heap}
/-! _law_bag: slots 0:script 1:total 2:cell -/
abbrev s_law_bag : Stmt := topS 33
theorem sc_law_bag : FnScope ["script", "total", "cell"] ["script"] (defScope s_law_bag) := ⟨rfl, rfl, rfl, by decide +kernel, rfl, by decide +kernel, by decide +kernel⟩
def sp_law_bag (K : PySem.W.Frag) : Sp := fun vs H Q _ => ∃ (a : Addr) (ns : List Int), vs = [.ref a] ∧ SqL K H a (ns.map V.int) ∧ ns.length ≤ 63 ∧ ∀ H' p cl, Same H H' → H p = none → H cl = none → Bag H' p cl 0 → Q (.ref p) H'
theorem ok_law_bag (D : Df K mg "_law_bag" s_law_bag) (T : Tx mg) : Has P w K mg base 1 "_law_bag" ["script"] (sp_law_bag K) := by
  refine has_of D sc_law_bag (fun _ _ _ _ _ _ us hl => match us, hl with | [_], _ => rfl) (fun vs H Q E h => ?_) (fun f cdv A outer s₀ H vs Q E hr h => ?_)
  · obtain ⟨_, _, rfl, _⟩ := h
    rfl
  · obtain ⟨a, ns, rfl, hS, l63, q⟩ := h
    refine ⟨_, (pss_cons (ps_set (i := 1) sc_law_bag.nd rfl (by first | exact Or.inl rfl | exact Or.inr rfl) pe_int)
    (pss_cons (ps_for PassesOwn.never rfl (pi_list (pv 0)) (pg_name (i := 2) sc_law_bag.nd rfl (by first | exact Or.inl rfl | exact Or.inr rfl))
      (pss_one (ps_set (i := 1) sc_law_bag.nd rfl (by first | exact Or.inl rfl | exact Or.inr rfl) (pe_op op_mod (pe_op op_add (pe_op op_add (pe_op op_mul (pv 1) pe_int) (pe_op op_mod (pv 2) pe_int)) pe_int) pe_int))))
    (pss_one (ps_ret (pe_lst (pa_cons (pe_callTy call_list_of (by rfl) T.n_list (by decide +kernel) (pa_cons (pv 0) pa_nil)) (pa_cons pe_int (pa_cons pe_int (pa_cons pe_int (pa_cons (pv 1) pa_nil)))))))))), ?_⟩
    refine ⟨_, rfl, a, rfl, ⟨_, hS⟩, for_list (K := K) (a := a) (xs := ns.map V.int) (fun i σ H' => ∃ (t : Int) (y : Option V), σ = [some (.ref a), some (.int t), y] ∧ H' = H ∧ 0 ≤ t ∧ t < 2305843009213693951)
      ⟨1, none, rfl, rfl, by decide, by decide⟩ (fun i σ H' _ hP => ?_) (fun i x σ H1 ex hP => ?_) (fun σ H1 hP => ?_)⟩
    · obtain ⟨_, _, _, rfl, _⟩ := hP
      exact hS
    · obtain ⟨t, y, rfl, rfl, t0, t1⟩ := hP
      rw [List.getElem?_map] at ex
      cases e : ns[i]? with
      | none =>
        rw [e] at ex
        cases ex
      | some c =>
        rw [e] at ex
        cases ex
        refine ⟨_, rfl, _, _, rfl, rfl, .inr ⟨by decide, by decide⟩, _, rfl, _, _, rfl, rfl, (by show (0 : Int) < _; decide), _, _, rfl, rfl, _, _, rfl, rfl, _, _, rfl, rfl, (by show (0 : Int) < _; decide), ?_⟩
        exact ⟨_, _, rfl, rfl, Int.emod_nonneg _ (by decide), Int.emod_lt_of_pos _ (by decide)⟩
    · obtain ⟨t, y, rfl, rfl, t0, t1⟩ := hP
      refine ⟨_, rfl, a, _, rfl, .inl hS, fun cl ncl => ⟨_, rfl, (by show 5 ≤ sizeLine; decide), fun p np => ?_⟩⟩
      have s1 := same_upd (o := .lst (ns.map V.int)) ncl
      have s2 := same_upd (o := .lst [.ref cl, .int 0, .int 0, .int 0, .int t]) np
      exact q _ p cl (s1.trans s2) (s1.free np) ncl ⟨⟨ns, 0, 0, 0, t⟩, upd_same, s2 _ _ upd_same, l63, Int.le_refl _, by show (0 : Int) ≤ _; omega, Int.le_refl _, Int.le_refl _, by show (0 : Int) ≤ ((0 : Nat) : Int); decide, t0, t1⟩
/-! _law_stir: slots 0:number 1:place 2:one 3:two -/
abbrev s_law_stir : Stmt := topS 34
theorem sc_law_stir : FnScope ["number", "place", "one", "two"] ["number", "place"] (defScope s_law_stir) := ⟨rfl, rfl, rfl, by decide +kernel, rfl, by decide +kernel, by decide +kernel⟩
def sp_law_stir : Sp := fun vs H Q _ => ∃ (a d : Int), vs = [.int a, .int d] ∧ 0 ≤ a ∧ a < 2305843009213693951 ∧ 0 ≤ d ∧ d ≤ 1000000000000000 ∧ ∀ r, Q (.int r) H
theorem ok_law_stir (D : Df K mg "_law_stir" s_law_stir) (T : Tx mg) : Has P w K mg base 1 "_law_stir" ["number", "place"] sp_law_stir := by
  refine has_of D sc_law_stir (fun _ _ _ _ _ _ us hl => match us, hl with | [_, _], _ => rfl) (fun vs H Q E h => ?_) (fun f cdv A outer s₀ H vs Q E hr h => ?_)
  · obtain ⟨_, _, rfl, _⟩ := h
    rfl
  · obtain ⟨a, d, rfl, a0, a1, d0, d1, q⟩ := h
    refine ⟨_, (pss_cons (ps_set (i := 2) sc_law_stir.nd rfl (by first | exact Or.inl rfl | exact Or.inr rfl) (pe_op op_mod (pe_op op_add (pe_op op_add (pe_op op_mul (pv 0) pe_int) (pe_op op_mul (pv 1) pe_int)) pe_int) pe_int))
    (pss_cons (ps_set (i := 3) sc_law_stir.nd rfl (by first | exact Or.inl rfl | exact Or.inr rfl) (pe_op op_mod (pe_op op_mul (pv 2) (pv 2)) pe_int))
    (pss_one (ps_ret (pe_op op_fdiv (pe_op op_mod (pe_op op_add (pe_op op_add (pe_op op_mul (pv 3) pe_int) (pe_op op_mul (pe_op op_mul (pv 1) (pv 1)) pe_int)) (pe_op op_fdiv (pv 2) pe_int)) pe_int) pe_int))))), ?_⟩
    refine ⟨_, rfl, _, _, rfl, rfl, .inr ⟨by decide, by decide⟩, _, rfl, _, _, rfl, rfl, .inr ⟨by decide, by decide⟩, _, _, rfl, rfl, _, _, rfl, rfl, _, _, rfl, rfl, (by show (0 : Int) < _; decide), ?_⟩
    have e0 := Int.emod_nonneg (a * 998244353 + d * 1000000007 + 5) (b := 2305843009213693951) (by decide)
    have e1 := Int.emod_lt_of_pos (a * 998244353 + d * 1000000007 + 5) (b := 2305843009213693951) (by decide)
    generalize (a * 998244353 + d * 1000000007 + 5) % 2305843009213693951 = one at *
    refine ⟨_, rfl, _, rfl, _, _, rfl, rfl, .inl ⟨by omega, by omega⟩, _, _, rfl, rfl, (by show (0 : Int) < _; decide), ?_⟩
    refine ⟨_, rfl, _, _, rfl, rfl, .inr ⟨by decide, by decide⟩, _, rfl, _, rfl, _, _, rfl, rfl, .inl ⟨by omega, by omega⟩, _, _, rfl, rfl, .inr ⟨by decide, by decide⟩, _, _, rfl, rfl, _, rfl, _, _, rfl, rfl, ⟨by decide, by decide⟩, _, _, rfl, rfl, _, _, rfl, rfl, (by show (0 : Int) < _; decide), _, _, rfl, rfl, ⟨by decide, by decide⟩, q _⟩
/-! _law_draw: slots 0:bag 1:bound 2:found 3:cell -/
abbrev s_law_draw : Stmt := topS 35
theorem sc_law_draw : FnScope ["bag", "bound", "found", "cell"] ["bag", "bound"] (defScope s_law_draw) := ⟨rfl, rfl, rfl, by decide +kernel, rfl, by decide +kernel, by decide +kernel⟩
def sp_law_draw : Sp := fun vs H Q _ => ∃ (p cl : Addr) (n : Nat) (m : Int), vs = [.ref p, .int m] ∧ Bag H p cl n ∧ n + 1 ≤ 1000000000000000 ∧ 1 ≤ m ∧ m.natAbs < 2 ^ 8000 ∧ ∀ H' r, But p H H' → Bag H' p cl (n + 1) → 0 ≤ r → r < m → Q (.int r) H'
theorem ok_law_draw (D : Df K mg "_law_draw" s_law_draw) (T : Tx mg) (G_law_stir : Has P w K mg base 1 "_law_stir" ["number", "place"] sp_law_stir) : Has P w K mg base 2 "_law_draw" ["bag", "bound"] sp_law_draw := by
  refine has_of D sc_law_draw (fun _ _ _ _ _ _ us hl => match us, hl with | [_, _], _ => rfl) (fun vs H Q E h => ?_) (fun f cdv A outer s₀ H vs Q E hr h => ?_)
  · obtain ⟨_, _, _, _, rfl, _⟩ := h
    rfl
  · obtain ⟨p, cl, n, m, rfl, z, nb, m1, m2, q⟩ := h
    have z0 := z
    have cp := z.cl_ne
    obtain ⟨⟨ns, i, r, d, t⟩, hp, hc, l63, i0, i1, r0, d0, d1, t0, t1⟩ := z
    have hp : H p = some (.lst [.ref cl, .int i, .int r, .int d, .int t]) := hp
    have hc : H cl = some (.lst (ns.map V.int)) := hc
    have l63 : ns.length ≤ 63 := l63
    have i0 : 0 ≤ i := i0
    have i1 : i ≤ ns.length := i1
    have r0 : 0 ≤ r := r0
    have d0 : 0 ≤ d := d0
    have d1 : d ≤ n := d1
    have t0 : 0 ≤ t := t0
    have t1 : t < 2305843009213693951 := t1
    have e0 : ∀ x : Int, 0 ≤ x % m := fun x => Int.emod_nonneg _ (by omega)
    have e1 : ∀ x : Int, x % m < m := fun x => Int.emod_lt_of_pos _ (by omega)
    refine ⟨_, (pss_cons (ps_if (pt_cmpR op_eq (pv 1) pe_int (nomark _)) (pss_one (ps_ret pe_int)) pss_nil)
    (pss_cons (ps_asg (pe_op op_add (pe_ix ix_list (pv 0) pe_int (fun _ _ => rfl)) pe_int) (pg_sub (pv 0) pe_int set_list))
    (pss_cons (ps_if (PW.pt (pw_and (pt_cmpR op_lt (pe_ix ix_list (pv 0) pe_int (fun _ _ => rfl)) pe_int (nomark _)) (pw_and1 (pt_cmpR op_eq (pe_ix ix_list (pv 0) pe_int (fun _ _ => rfl)) (pe_callB call_len_seq (by rfl) T.n_len (by decide +kernel) (pa_cons (pe_ix ix_list (pv 0) pe_int (fun _ _ => rfl)) pa_nil)) (nomark _))))) (pss_one (ps_ret (pe_op op_mod (pe_callH G_law_stir (hr.mono (by omega)) (by rfl) (pa_cons (pe_ix ix_list (pv 0) pe_int (fun _ _ => rfl)) (pa_cons (pe_ix ix_list (pv 0) pe_int (fun _ _ => rfl)) pa_nil))) (pv 1)))) pss_nil)
    (C8.pss_cut (ps_if (pt_cmpR op_lt (pe_ix ix_list (pv 0) pe_int (fun _ _ => rfl)) pe_int (nomark _)) (pss_cons (ps_set (i := 3) sc_law_draw.nd rfl (by first | exact Or.inl rfl | exact Or.inr rfl) (pe_ix ix_list (pe_ix ix_list (pv 0) pe_int (fun _ _ => rfl)) (pe_ix ix_list (pv 0) pe_int (fun _ _ => rfl)) (fun _ _ => rfl)))
    (pss_cons (ps_asg (pe_op op_add (pe_ix ix_list (pv 0) pe_int (fun _ _ => rfl)) pe_int) (pg_sub (pv 0) pe_int set_list))
    (pss_cons (ps_if (pt_cmpR op_lt (pv 3) (pe_op op_pow pe_int pe_int) (nomark _)) (pss_one (ps_ret (pe_op op_mod (pe_callH G_law_stir (hr.mono (by omega)) (by rfl) (pa_cons (pe_op op_mod (pv 3) pe_int) (pa_cons (pe_ix ix_list (pv 0) pe_int (fun _ _ => rfl)) pa_nil))) (pv 1)))) pss_nil)
    (pss_one (ps_asg (pe_op op_sub (pv 3) (pe_op op_pow pe_int pe_int)) (pg_sub (pv 0) pe_int set_list)))))) pss_nil)
    (pss_cons (ps_set (i := 2) sc_law_draw.nd rfl (by first | exact Or.inl rfl | exact Or.inr rfl) (pe_op op_mod (pe_ix ix_list (pv 0) pe_int (fun _ _ => rfl)) (pv 1)))
    (pss_cons (ps_asg (pe_op op_fdivW (pe_ix ix_list (pv 0) pe_int (fun _ _ => rfl)) (pv 1)) (pg_sub (pv 0) pe_int set_list))
    (pss_one (ps_ret (pv 2))))))))), ?_⟩
    refine ⟨_, rfl, rfl, _, rfl, ite2 (fun _ => ?_) (fun _ => ?_)⟩
    · exact q _ _ But.refl (z0.mono (Nat.le_succ _)) (Int.le_refl _) (by omega)
    refine ⟨_, rfl, p, _, 3, _, rfl, rfl, .of hp, at53, _, _, rfl, rfl, _, rfl, p, _, 3, 3, rfl, rfl, hp, rfl, ?_⟩
    have B1 : But p H (upd H p (.lst [.ref cl, .int i, .int r, .int (d + 1), .int t])) := but_upd
    have hp1 : (upd H p (.lst [.ref cl, .int i, .int r, .int (d + 1), .int t])) p = some (.lst [.ref cl, .int i, .int r, .int (d + 1), .int t]) := upd_same
    have hc1 := B1 _ _ cp hc
    show tSeq _ _ _ _ (upd H p (.lst [.ref cl, .int i, .int r, .int (d + 1), .int t]))
    generalize upd H p (.lst [.ref cl, .int i, .int r, .int (d + 1), .int t]) = H1 at *
    have lm : (ns.map V.int).length = ns.length := List.length_map ..
    have mk : ∀ (H' : Hp) (i' r' : Int), But p H1 H' → H' p = some (.lst [.ref cl, .int i', .int r', .int (d + 1), .int t]) → 0 ≤ i' → i' ≤ ns.length → 0 ≤ r' → But p H H' ∧ Bag H' p cl (n + 1) := fun H' i' r' b hb j0 j1 k0 =>
      ⟨B1.trans b, ⟨ns, i', r', d + 1, t⟩, hb, b _ _ cp hc1, l63, j0, j1, k0, by show 0 ≤ d + 1; omega, by show d + 1 ≤ ((n + 1 : Nat) : Int); omega, t0, t1⟩
    have out : ∀ (H' : Hp) (i' r' x : Int), But p H1 H' → H' p = some (.lst [.ref cl, .int i', .int r', .int (d + 1), .int t]) → 0 ≤ i' → i' ≤ ns.length → 0 ≤ r' → Q (.int (x % m)) H' := fun H' i' r' x b hb j0 j1 k0 => by
      obtain ⟨k1, k2⟩ := mk H' i' r' b hb j0 j1 k0
      exact q _ _ k1 k2 (e0 x) (e1 x)
    refine ⟨_, rfl, p, _, 2, _, rfl, rfl, .of hp1, at52, _, _, rfl, rfl, _, rfl, ?_⟩
    have rest : ∀ (H2 : Hp) (i' r' : Int), But p H1 H2 → H2 p = some (.lst [.ref cl, .int i', .int r', .int (d + 1), .int t]) → 0 ≤ i' → i' ≤ ns.length → 0 ≤ r' →
        ∀ H3, H3 = upd H2 p (.lst [.ref cl, .int i', .int (r' / m), .int (d + 1), .int t]) → Q (.int (r' % m)) H3 := fun H2 i' r' b hb j0 j1 k0 H3 e3 => by
      subst e3
      exact out _ i' (r' / m) r' (b.trans but_upd) upd_same j0 j1 (Int.ediv_nonneg k0 (by omega))
    by_cases c2 : r < 2
    · refine iteP (decide_eq_true c2) ⟨_, rfl, p, _, 1, _, rfl, rfl, .of hp1, at51, _, rfl, p, _, 0, _, rfl, rfl, .of hp1, at50, cl, _, rfl, .inl (.of hc1), rfl, _, rfl, ?_⟩
      rw [lm]
      by_cases ci : i = ns.length
      · refine iteP (decide_eq_true (by rw [ci])) ⟨_, rfl, p, _, 4, _, rfl, rfl, .of hp1, at54, _, rfl, p, _, 3, _, rfl, rfl, .of hp1, at53, t, d + 1, rfl, t0, t1, by omega, by omega, fun x => ⟨_, rfl, _, _, rfl, rfl, (by omega), ?_⟩⟩
        exact out _ i r x But.refl hp1 i0 i1 r0
      · have ci2 : i < ns.length := by omega
        refine iteN (decide_eq_false (fun z => ci (V.int.inj z))) ?_
        obtain ⟨c, ec⟩ : ∃ c, ns[i.toNat]? = some c := ⟨_, List.getElem?_eq_getElem (by omega)⟩
        have eci : atI (ns.map V.int) i = some (.int c) := atI_ofB i0 (by rw [List.getElem?_map, ec]; rfl)
        refine ⟨fun σ' H' => ∃ i' r' y3, σ' = [some (.ref p), some (.int m), none, y3] ∧ But p H1 H' ∧ H' p = some (.lst [.ref cl, .int i', .int r', .int (d + 1), .int t]) ∧ 0 ≤ i' ∧ i' ≤ ns.length ∧ 0 ≤ r', ?_, fun σ' H2 hM => ?_⟩
        · refine ⟨_, rfl, p, _, 2, _, rfl, rfl, .of hp1, at52, _, _, rfl, rfl, _, rfl, iteP (decide_eq_true c2) ?_⟩
          refine ⟨_, rfl, p, _, 0, _, rfl, rfl, .of hp1, at50, _, rfl, p, _, 1, _, rfl, rfl, .of hp1, at51, cl, _, i, _, rfl, rfl, .of hc1, eci, ?_⟩
          refine ⟨_, rfl, p, _, 1, _, rfl, rfl, .of hp1, at51, _, _, rfl, rfl, _, rfl, p, _, 1, 1, rfl, rfl, hp1, rfl, ?_⟩
          have B2 : But p H1 (upd H1 p (.lst [.ref cl, .int (i + 1), .int r, .int (d + 1), .int t])) := but_upd
          have hp2 : (upd H1 p (.lst [.ref cl, .int (i + 1), .int r, .int (d + 1), .int t])) p = some (.lst [.ref cl, .int (i + 1), .int r, .int (d + 1), .int t]) := upd_same
          show tSeq _ _ _ _ (upd H1 p (.lst [.ref cl, .int (i + 1), .int r, .int (d + 1), .int t]))
          generalize upd H1 p (.lst [.ref cl, .int (i + 1), .int r, .int (d + 1), .int t]) = H2 at *
          refine ⟨_, rfl, _, _, rfl, rfl, ⟨by decide, by decide, by decide⟩, _, _, rfl, rfl, _, rfl, ite2 (fun c3 => ?_) (fun c3 => ?_)⟩
          · refine ⟨_, rfl, _, _, rfl, rfl, (by show (0 : Int) < _; decide), _, rfl, p, _, 3, _, rfl, rfl, .of hp2, at53, _, d + 1, rfl, Int.emod_nonneg _ (by decide), Int.emod_lt_of_pos _ (by decide), by omega, by omega, fun x => ⟨_, rfl, _, _, rfl, rfl, (by omega), ?_⟩⟩
            exact out _ (i + 1) r x B2 hp2 (by omega) (by omega) r0
          · have c3 : ¬ c < (10 : Int) ^ ((18 : Int).toNat) := fun z => c3 (decide_eq_true z)
            refine ⟨_, rfl, _, _, rfl, rfl, ⟨by decide, by decide, by decide⟩, _, _, rfl, rfl, _, rfl, p, _, 2, 2, rfl, rfl, hp2, rfl, ?_⟩
            exact ⟨i + 1, _, _, rfl, B2.trans but_upd, upd_same, by omega, by omega, by omega⟩
        · obtain ⟨i', r', y3, rfl, b2, hp2, j0, j1, k0⟩ := hM
          refine ⟨_, rfl, p, _, 2, _, rfl, rfl, .of hp2, at52, _, rfl, _, _, rfl, rfl, (by omega), ?_⟩
          refine ⟨_, rfl, p, _, 2, _, rfl, rfl, .of hp2, at52, _, rfl, _, _, rfl, rfl, wide_div (by omega) m2 (by decide) (by decide), _, rfl, p, _, 2, 2, rfl, rfl, hp2, rfl, ?_⟩
          exact ⟨_, rfl, rest H2 i' r' b2 hp2 j0 j1 k0 _ rfl⟩
    · refine iteN (decide_eq_false c2) ?_
      refine ⟨fun σ' H' => σ' = [some (.ref p), some (.int m), none, none] ∧ H' = H1, ?_, fun σ' H2 hM => ?_⟩
      · exact ⟨_, rfl, p, _, 2, _, rfl, rfl, .of hp1, at52, _, _, rfl, rfl, _, rfl, iteN (decide_eq_false c2) ⟨rfl, rfl⟩⟩
      · obtain ⟨rfl, rfl⟩ := hM
        refine ⟨_, rfl, p, _, 2, _, rfl, rfl, .of hp1, at52, _, rfl, _, _, rfl, rfl, (by omega), ?_⟩
        refine ⟨_, rfl, p, _, 2, _, rfl, rfl, .of hp1, at52, _, rfl, _, _, rfl, rfl, wide_div (by omega) m2 (by decide) (by decide), _, rfl, p, _, 2, 2, rfl, rfl, hp1, rfl, ?_⟩
        exact ⟨_, rfl, rest _ i r But.refl hp1 i0 i1 r0 _ rfl⟩
end
end UP

set_option Elab.async false
set_option linter.all false
set_option maxRecDepth 100000
set_option maxHeartbeats 4000000
set_option pp.maxSteps 300
namespace UP
open PySem PySem.Spec PyProof.Rows L2
/-! ### defs that call repr: no other repr is under way around them -/
structure FnG (P : Program) (w : World) (K : PySem.W.Frag) (mg : Str → Option Value) (base : Heap) (k : Nat) (f : Addr) (fd : FuncData) (ps : List Str) (sp : Sp) : Prop where
  len : ∀ vs H Q E, sp vs H Q E → vs.length = ps.length
  run : ∀ (A : Around) (outer : List Env) (s : Shared) (H : Hp) (args : Args) (us : List Value) (vs : List V) (Q : VK) (E : XK), Room k A → A.guards = some [] → Env0 P w K mg base A outer s H → BindsTo s fd args (ps.zip us) → Vals vs us → sp vs H Q E →
    codeAny (model P w) A (.call (.ref f) args) (CR CX0 outer P w H s Q E) s
def HasG (P : Program) (w : World) (K : PySem.W.Frag) (mg : Str → Option Value) (base : Heap) (k : Nat) (x : Str) (ps : List Str) (sp : Sp) : Prop :=
  ∃ f fd, mg x = some (.ref f) ∧ PySem.W.keepIn K (.ref f) = true ∧ Binds K fd ps [] ∧ FnG P w K mg base k f fd ps sp
section
variable {P : Program} {w : World} {K : PySem.W.Frag} {mg : Str → Option Value} {base : Heap}
theorem hasG_of {x : Str} {st : Stmt} {ps N : List Str} {k : Nat} {sp : Sp} (D : Df K mg x st) (S : FnScope N ps (defScope st))
    (hb : ∀ (kV doc pm : Value) (an : Option Addr) (cdv ct : Value) (us : List Value), us.length = ps.length → bindArgs (PySem.W.fnOf x x (defArgs st) (defBody st) (defScope st) .none kV doc pm an cdv ct) ⟨us, []⟩ = pure (ps.zip us))
    (len : ∀ vs H Q E, sp vs H Q E → vs.length = ps.length)
    (body : ∀ (f : Addr) (cdv : Value) (A : Around) (outer : List Env) (s : Shared) (H : Hp) (vs : List V) (Q : VK) (E : XK), Room k (A.deeper (envOfC x (defScope st) s.heap.objs.size f cdv)) → A.guards = some [] → sp vs H Q E →
      ∃ t, PSs (cxOf CX0 P w K mg base N x (defScope st) f cdv A outer s H E).nox (defBody st) t ∧ t { nx := fun _ H' => Q .non H', rt := Q } (start N vs) H) :
    HasG P w K mg base (k + 1) x ps sp := by
  obtain ⟨f, fd, g, F⟩ := D
  refine ⟨f, fd, g, F.kp, F.binds hb, len, ?_⟩
  obtain ⟨oc, od, kV, doc, pm, an, cdv, ct, osl, rfl, lk, hcd⟩ := F.ex
  intro A out s H args us vs Q E hr gd e0 hb rv hsp
  have inS : K.In s.heap := e0.mod.kin.keeps fun b o z => (e0.bs b o z).1
  have noL : s.heap.NoLimit := e0.mod.nolimit.keeps fun b o z => (e0.bs b o z).1
  have kinds : ∀ y ∈ ps.zip us, (defScope st).names.lookup y.1 = some .local ∨ ((defScope st).names.lookup y.1 = some .cell ∧ ((cellsFrom (s.heap.objs.size + 1) (defScope st).names []).lookup y.1).isSome = true) := by
    intro y hy
    rcases S.par y.1 (List.of_mem_zip (a := y.1) (b := y.2) hy).1 with z | z
    · exact Or.inl z
    · exact Or.inr ⟨z, PySem.W.cellsFrom_some _ _ _ (Or.inl z)⟩
  refine codeAny_call_function hr.depth (inS _ _ lk) rfl S.co S.gen rfl (PySem.W.codeRec_of inS hcd) (hb _ _ _ _ ?_)
  refine wpAny_newFunctionEnv_cells S.kind kinds fun env he s1 inC => ?_
  subst he
  refine ⟨noL.keeps inC.toInCall.keep, codeAny_func ?_⟩
  obtain ⟨t, ht0, hq⟩ := body f cdv A out s H vs Q E (hr.deeper _) gd hsp
  have ht := PSs.nox ht0
  have I0 : Inv (cxOf CX0 P w K mg base N x (defScope st) f cdv A out s H E) [] (start N vs) H s1 := inv_start S hr.hd e0 (len _ _ _ _ hsp) rv inC
  refine wpAny_mono (ht.run [] s1 (start N vs) H _ I0 hq) (fun fl s2 h2 => ?_) fun _ _ z => z
  cases fl with
  | next =>
    obtain ⟨σ2, H2, J, q2⟩ := h2
    exact ⟨V.non, H2, J.os, J.bare, J.base, J.hok, rfl, q2⟩
  | ret u =>
    obtain ⟨v, σ2, H2, J, rv2, q2⟩ := h2
    exact ⟨v, H2, J.os, J.bare, J.base, J.hok, rv2, q2⟩
  | brk =>
    obtain ⟨_, _, _, z⟩ := h2
    exact z.elim
  | cont =>
    obtain ⟨_, _, _, z⟩ := h2
    exact z.elim
end
section
variable {X : Cx}
theorem pe_callGH {k : Nat} {x : Str} {ps : List Str} {sp : Sp} {p pos : Pos} {e : Expr} {es : List Expr} {t : TA} (G : HasG X.prog X.w X.K X.mg X.base k x ps sp) (gd : X.A.guards = some []) (hr : Room k X.A) (hg : Gl X x) (ha : PA X (e :: es) t)
    (hdb : (x == ("__debug__" : Str)) = false := by decide) (he : starEach (e :: es) X.env = (false, eval e X.env) :: starEach es X.env := by rfl) (hpl : (backTo pos (starEach es X.env)).any (·.1) = false := by rfl) :
    PE X (.Call (.Name x p) (e :: es) [] pos) (tCall sp [] E0 t) := by
  obtain ⟨f, fd, g, kp, hb, F⟩ := G
  refine ⟨fun pins s σ H Q I h => ?_⟩
  refine wpAny_Call_Name_kw (ld_glob I hg g ?_ hdb)
  refine PySem.W.callWith_K (h₀ := X.base) I.ok.mod.kin kp (thn (ha.run pos pins s σ H _ I h) fun us s1 ⟨vs, H1, I1, r, q⟩ => ⟨I1.kIn, ?_⟩) he hpl
  have r2 : Vals (vs ++ []) (us ++ []) := r.append .nil
  have hl : (us ++ []).length = ps.length := by rw [← r2.length]; exact F.len _ _ _ _ q
  refine wpAny_call (codeAny_mono (F.run X.A X.stack s1 H1 ⟨us, []⟩ (us ++ []) (vs ++ []) Q E0 hr gd I1.env0 (hb s1 us I1.kIn hl) r2 q) fun r s' hq => ?_)
  cases r with
  | error e => exact pass0 pins σ H1 s1 e s' I1 hq
  | ok fl =>
    cases fl with
    | ret u => exact I1.after hq
    | next => exact False.elim hq
    | brk => exact False.elim hq
    | cont => exact False.elim hq
/-- repr of a list, a tuple or None -/
def rReprV (K : PySem.W.Frag) : List V → Hp → VK → Prop := fun xs H Q => (xs = [.non] ∧ Q (.str (PyData.none).shown) H) ∨ rRepr K xs H Q
theorem call_reprV {X : Cx} (hg : X.A.guards = some []) (hu : X.A.units + 70 < cLine) : CallR X (.builtin "repr") (rReprV X.K) := by
  intro pins s σ H xs us Q I r h
  rcases h with ⟨rfl, q⟩ | h
  · obtain ⟨u, rfl, ru⟩ := vals1 r
    obtain rfl : u = Value.none := ru
    exact PySem.P.repr_of_none ⟨.str (PyData.none).shown, H, I.kept (t' := s.toks + 1) (fun _ _ e => e), ⟨s.toks, rfl⟩, q⟩
  · exact call_reprD hg hu pins s σ H xs us Q I r h
end
end UP

set_option Elab.async false
set_option linter.all false
set_option maxRecDepth 100000
set_option maxHeartbeats 4000000
set_option pp.maxSteps 300
namespace UP
open PySem PySem.Spec PyProof.Rows L2
/-! ### texts -/
theorem sIx_m1 (n d : Nat) : HT.sIx (n + 1) d (some (-1)) = n := by
  show (if (-1 : Int) < 0 then ((-1 : Int) + ((n + 1 : Nat) : Int)).toNat else min (-1 : Int).toNat (n + 1)) = n
  rw [if_pos (by decide)]
  omega
theorem cut_head {a z : Str} {c : Nat} (h : TL.tl z = TL.tl a ++ [c]) : cutS z none (some (-1)) = a := by
  have hl : z.length = a.length + 1 := by
    rw [TL.len_tl, h, List.length_append, ← TL.len_tl]
    rfl
  refine TL.ext_tl ?_
  unfold cutS
  rw [hl, sIx_m1, HT.sIx_none]
  show ((TL.tl z).drop 0).take (a.length - 0) = _
  rw [h, List.drop_zero, Nat.sub_zero, TL.len_tl, List.take_left]
theorem cut_tail {a z : Str} {c : Nat} (h : TL.tl z = TL.tl a ++ [c]) : cutS z (some (-1)) none = ⟨#[c]⟩ := by
  have hl : z.length = a.length + 1 := by
    rw [TL.len_tl, h, List.length_append, ← TL.len_tl]
    rfl
  refine TL.ext_tl ?_
  unfold cutS
  rw [hl, sIx_m1, HT.sIx_none]
  show ((TL.tl z).drop a.length).take (a.length + 1 - a.length) = [c]
  rw [h, TL.len_tl, List.drop_left, show (TL.tl a).length + 1 - (TL.tl a).length = 1 by omega]
  rfl
theorem at_tail {a z : Str} {c : Nat} (h : TL.tl z = TL.tl a ++ [c]) : atI z.cps.toList (-1) = some c := by
  show atI (TL.tl z) (-1) = some c
  rw [h]
  exact atI_last _ _
theorem tl_sp : TL.tl (" " : Str) = [32] := by decide +kernel
theorem join_len (ws : List Str) : (Txt.join " " ws).length ≤ (ws.map (·.length)).sum + ws.length := by
  rw [TL.len_tl, TL.join_eq, TL.tl_join, tl_sp]
  have : ∀ l : List Str, (TL.joinL [32] (l.map TL.tl)).length ≤ (l.map (·.length)).sum + l.length := by
    intro l
    induction l with
    | nil => exact Nat.zero_le _
    | cons p t ih =>
      cases t with
      | nil =>
        show (TL.tl p).length ≤ p.length + 0 + 1
        rw [← TL.len_tl]
        omega
      | cons q r =>
        show (TL.tl p ++ ([32] ++ TL.joinL [32] ((q :: r).map TL.tl))).length ≤ (p.length + ((q :: r).map (·.length)).sum) + ((q :: r).length + 1)
        rw [List.length_append, List.length_append, ← TL.len_tl]
        show p.length + (1 + _) ≤ _
        omega
  exact this ws
theorem sum_le {ws : List Str} {n : Nat} (h : ∀ w ∈ ws, w.length ≤ n) : (ws.map (·.length)).sum ≤ n * ws.length := by
  induction ws with
  | nil => exact Nat.zero_le _
  | cons p t ih =>
    have h1 := h p (List.mem_cons_self ..)
    have h2 := ih fun w hw => h w (List.mem_cons_of_mem _ hw)
    show p.length + (t.map (·.length)).sum ≤ n * (t.length + 1)
    rw [Nat.mul_succ]
    omega
/-- words without a blank are found again -/
theorem split_words {ws : List Str} (ne : ws ≠ []) (h : ∀ w ∈ ws, 32 ∉ TL.tl w) : Txt.split (Txt.join " " ws) " " = ws := TL.split_join tl_sp (by decide +kernel) ne h
theorem join_ne {ws : List Str} (ne : ws ≠ []) (h : ∀ w ∈ ws, TL.tl w ≠ []) : Txt.join " " ws ≠ "" := fun e => by
  have e2 := congrArg TL.tl e
  rw [TL.join_eq, TL.tl_join, show TL.tl ("" : Str) = [] by decide +kernel] at e2
  cases ws with
  | nil => exact ne rfl
  | cons p t =>
    have hp := h p (List.mem_cons_self ..)
    cases t with
    | nil => exact hp e2
    | cons q r =>
      have e2 : TL.tl p ++ (TL.tl (" " : Str) ++ TL.joinL (TL.tl (" " : Str)) ((q :: r).map TL.tl)) = [] := e2
      exact hp (List.append_eq_nil_iff.mp e2).1
theorem join_nil : Txt.join " " [] = "" := by
  refine TL.ext_tl ?_
  rw [TL.join_eq, TL.tl_join]
  exact (show TL.tl ("" : Str) = [] by decide +kernel).symm
theorem kind_tl {k : Str} (h : KindOk k) {c : Nat} (hc : c ∈ TL.tl k) : 97 ≤ c ∧ c ≤ 122 := h.2.2 c hc
/-! ### entries of records -/
abbrev En := Option Str × Bool
def actS (b : Bool) : Str := if b then "waits" else "leaves"
def sgnS (b : Bool) : Str := if b then "+" else "-"
def sgnC (b : Bool) : Nat := if b then 43 else 45
def kdS (k : Option Str) : Str := k.getD "?"
def koV : Option Str → V
  | none => .non
  | some s => .str s
def wdS (e : En) : Str := kdS e.1 ++ sgnS e.2
def EnOk (e : En) : Prop := ∀ k, e.1 = some k → KindOk k
theorem tl_sgn (b : Bool) : TL.tl (sgnS b) = [sgnC b] := by cases b <;> decide +kernel
theorem tl_q : TL.tl ("?" : Str) = [63] := by decide +kernel
theorem sgn_eq (b : Bool) : (⟨#[sgnC b]⟩ : Str) = sgnS b := TL.ext_tl (tl_sgn b).symm
theorem tl_wd (e : En) : TL.tl (wdS e) = TL.tl (kdS e.1) ++ [sgnC e.2] := by
  unfold wdS
  rw [TL.tl_append, tl_sgn]
theorem kd_free {e : En} (h : EnOk e) : 32 ∉ TL.tl (kdS e.1) := fun hm => by
  obtain ⟨k, b⟩ := e
  cases k with
  | none =>
    have hm : 32 ∈ TL.tl ("?" : Str) := hm
    rw [tl_q] at hm
    exact absurd hm (by decide)
  | some k =>
    have := kind_tl (h k rfl) hm
    omega
theorem wd_free {e : En} (h : EnOk e) : 32 ∉ TL.tl (wdS e) := fun hm => by
  rw [tl_wd] at hm
  rcases List.mem_append.mp hm with z | z
  · exact kd_free h z
  · have := List.mem_singleton.mp z
    obtain ⟨k, b⟩ := e
    cases b
    · exact absurd (show (32 : Nat) = 45 from this) (by decide)
    · exact absurd (show (32 : Nat) = 43 from this) (by decide)
theorem wd_ne (e : En) : TL.tl (wdS e) ≠ [] := by
  rw [tl_wd]
  simp
theorem kd_len {e : En} (h : EnOk e) : (kdS e.1).length ≤ 8 := by
  obtain ⟨k, b⟩ := e
  cases k with
  | none =>
    show ("?" : Str).length ≤ 8
    decide +kernel
  | some k => exact (h k rfl).2.1
theorem sgn_len (b : Bool) : (sgnS b).length = 1 := by
  rw [TL.len_tl, tl_sgn]
  rfl
theorem wd_len {e : En} (h : EnOk e) : (wdS e).length ≤ 9 := by
  have := kd_len h
  rw [TL.len_tl, tl_wd, List.length_append, ← TL.len_tl]
  show (kdS e.1).length + 1 ≤ 9
  omega
theorem kd_q {e : En} (h : EnOk e) : kdS e.1 = "?" ↔ e.1 = none := by
  obtain ⟨k, b⟩ := e
  cases k with
  | none => exact ⟨fun _ => rfl, fun _ => rfl⟩
  | some k =>
    refine ⟨fun z => ?_, fun z => by cases z⟩
    have z : k = "?" := z
    have h := h k rfl
    rw [z] at h
    exact absurd h (by decide +kernel)
/-- a record's text -/
def rtS (es : List En) : Str := Txt.join " " (es.map wdS)
theorem rt_len {es : List En} (h : ∀ e ∈ es, EnOk e) (l : es.length ≤ 400) : (rtS es).length ≤ 4000 := by
  have h1 := join_len (es.map wdS)
  have h2 := sum_le (ws := es.map wdS) (n := 9) (fun w hw => by
    obtain ⟨e, he, rfl⟩ := List.mem_map.mp hw
    exact wd_len (h e he))
  rw [List.length_map] at h1 h2
  show (Txt.join " " (es.map wdS)).length ≤ 4000
  omega
def EnV (H : Hp) (v : V) (e : En) : Prop := ∃ t, v = .ref t ∧ H t = some (.tup [koV e.1, .str (actS e.2)])
def EnG (H : Hp) (v : V) (e : En) : Prop := ∃ t, v = .ref t ∧ Sq2 H t [koV e.1, .str (actS e.2)]
def RecG (H : Hp) (v : V) (es : List En) : Prop := ∃ a xs, v = .ref a ∧ Sq2 H a xs ∧ Paired (EnG H) xs es
def Rec (H : Hp) (a : Addr) (es : List En) : Prop := ∃ xs, H a = some (.lst xs) ∧ Paired (EnV H) xs es
theorem EnV.tk {H H' : Hp} {v : V} {e : En} (h : EnV H v e) (k : ∀ t xs, H t = some (.tup xs) → H' t = some (.tup xs)) : EnV H' v e := by
  obtain ⟨t, rfl, ht⟩ := h
  exact ⟨t, rfl, k _ _ ht⟩
theorem EnV.same {H H' : Hp} {v : V} {e : En} (s : Same H H') (h : EnV H v e) : EnV H' v e := h.tk fun _ _ e => s _ _ e
theorem EnG.same {H H' : Hp} {v : V} {e : En} (s : Same H H') (h : EnG H v e) : EnG H' v e := by
  obtain ⟨t, rfl, ht⟩ := h
  exact ⟨t, rfl, ht.same s⟩
theorem RecG.same {H H' : Hp} {v : V} {es : List En} (s : Same H H') (h : RecG H v es) : RecG H' v es := by
  obtain ⟨a, xs, rfl, hx, hp⟩ := h
  exact ⟨a, xs, rfl, hx.same s, Paired.imp (fun _ _ z => EnG.same s z) hp⟩
theorem EnV.dress {H : Hp} {v : V} {e : En} (h : EnV H v e) : EnG H v e := by
  obtain ⟨t, rfl, ht⟩ := h
  exact ⟨t, rfl, .inr ht⟩
theorem Rec.dress {H : Hp} {a : Addr} {es : List En} (h : Rec H a es) : RecG H (.ref a) es := by
  obtain ⟨xs, hx, hp⟩ := h
  exact ⟨a, xs, rfl, .inl hx, Paired.imp (fun _ _ => EnV.dress) hp⟩
theorem Rec.same {H H' : Hp} {a : Addr} {es : List En} (s : Same H H') (h : Rec H a es) : Rec H' a es := by
  obtain ⟨xs, hx, hp⟩ := h
  exact ⟨xs, s _ _ hx, Paired.imp (fun _ _ z => EnV.same s z) hp⟩
/-! ### the written dicts -/
structure TexT (K : PySem.W.Frag) (w : World) (mg : Str → Option Value) (aM aA : Addr) : Prop where
  a_MARKS : mg "MARKS" = some (.ref aM)
  m1 : KDct K w aM "waits" (.str "+")
  m2 : KDct K w aM "leaves" (.str "-")
  a_ACTIONS : mg "ACTIONS" = some (.ref aA)
  a1 : KDct K w aA "+" (.str "waits")
  a2 : KDct K w aA "-" (.str "leaves")
section
variable {X : Cx} {K : PySem.W.Frag} {w : World}
theorem ix_kdictK (h : X.K = K) (h2 : X.w = w) : IxR X (rIxD K w) := by
  subst h
  subst h2
  exact ix_kdict
end
theorem TexT.mk_ {K : PySem.W.Frag} {w : World} {mg : Str → Option Value} {aM aA : Addr} (T : TexT K w mg aM aA) (b : Bool) : KDct K w aM (actS b) (.str (sgnS b)) := by
  cases b
  · exact T.m2
  · exact T.m1
theorem TexT.ac_ {K : PySem.W.Frag} {w : World} {mg : Str → Option Value} {aM aA : Addr} (T : TexT K w mg aM aA) (b : Bool) : KDct K w aA (sgnS b) (.str (actS b)) := by
  cases b
  · exact T.a2
  · exact T.a1
theorem act_in (b : Bool) : inV (.str (actS b)) [.str "waits", .str "leaves"] = true := by cases b <;> decide +kernel
theorem sgn_in (b : Bool) : inV (.str (sgnS b)) [.str "+", .str "-"] = true := by cases b <;> decide +kernel
end UP

set_option Elab.async false
set_option linter.all false
set_option maxRecDepth 100000
set_option maxHeartbeats 4000000
set_option pp.maxSteps 300
namespace UP
open PySem PySem.Spec PyProof.Rows L2
section
variable {P : Program} {w : World} {K : PySem.W.Frag} {mg : Str → Option Value} {base : Heap} {aM aA : Addr}
/-! words_of: slots 0:text -/
abbrev s_words_of : Stmt := topS 26
theorem sc_words_of : FnScope ["text"] ["text"] (defScope s_words_of) := ⟨rfl, rfl, rfl, by decide +kernel, rfl, by decide +kernel, by decide +kernel⟩
def sp_words_of : Sp := fun vs H Q _ => ∃ (ws : List Str), vs = [.str (Txt.join " " ws)] ∧ (∀ x ∈ ws, 32 ∉ TL.tl x ∧ TL.tl x ≠ []) ∧ (Txt.join " " ws).length ≤ 900000 ∧ ∀ H' p, Same H H' → H p = none → H' p = some (.lst (ws.map V.str)) → Q (.ref p) H'
theorem ok_words_of (D : Df K mg "words_of" s_words_of) (T : Tx mg) : Has P w K mg base 1 "words_of" ["text"] sp_words_of := by
  refine has_of D sc_words_of (fun _ _ _ _ _ _ us hl => match us, hl with | [_], _ => rfl) (fun vs H Q E h => ?_) (fun f cdv A outer s H vs Q E hr h => ?_)
  · obtain ⟨e, rfl, _⟩ := h
    rfl
  · obtain ⟨ws, rfl, ok, l, q⟩ := h
    refine ⟨_, (pss_cons (ps_if (pt_not (pt_val (pe_callB call_isi (by rfl) T.n_isinstance (by decide +kernel) (pa_cons (pv 0) (pa_cons (pe_bltn (v := .ty "str") (by rfl) T.n_str (by decide +kernel) rfl) pa_nil))))) (pss_one ps_never) pss_nil)
    (pss_one (ps_ret (pe_ifExp (pt_cmpR op_eq (pv 0) pe_str (nomark _)) (pe_lst pa_nil) (pe_split (pv 0) pe_str))))), ?_⟩
    refine ⟨_, rfl, _, _, _, _, true, rfl, .ty "str", .base (.str _), kit_ty (by decide +kernel), true, rfl, iteF ?_⟩
    by_cases c : ws = []
    · subst c
      refine ⟨_, rfl, rfl, _, rfl, iteP (decide_eq_true (by rw [join_nil])) ⟨Nat.zero_le _, fun p np => q _ p (same_upd np) np upd_same⟩⟩
    · refine ⟨_, rfl, rfl, _, rfl, iteN (decide_eq_false (fun z => join_ne c (fun x hx => (ok x hx).2) (V.str.inj z))) ?_⟩
      refine ⟨_, rfl, ⟨_, rfl⟩, _, _, rfl, rfl, (by decide +kernel), Nat.le_of_lt (small (by omega)), fun p np => ?_⟩
      rw [split_words c (fun x hx => (ok x hx).1)]
      exact q _ p (same_upd np) np upd_same
/-! check_forms: slots 0:forms -/
abbrev s_check_forms : Stmt := topS 27
theorem sc_check_forms : FnScope ["forms"] ["forms"] (defScope s_check_forms) := ⟨rfl, rfl, rfl, by decide +kernel, rfl, by decide +kernel, by decide +kernel⟩
def sp_check_forms : Sp := fun vs H Q _ => ∃ (a : Addr) (n : Nat), vs = [.ref a] ∧ H a = some (.lst ((List.replicate n true).map V.bl)) ∧ Q .non H
theorem all_flat (n : Nat) : ((List.replicate n true).map V.bl).all flatV = true := by
  rw [List.all_eq_true]
  intro x hx
  obtain ⟨b, _, rfl⟩ := List.mem_map.mp hx
  rfl
theorem no_false (n : Nat) : inV (.bl false) ((List.replicate n true).map V.bl) = false := by
  unfold inV
  rw [List.any_eq_false]
  intro x hx
  obtain ⟨b, hb, rfl⟩ := List.mem_map.mp hx
  rw [(List.mem_replicate.mp hb).2]
  decide
theorem ok_check_forms (D : Df K mg "check_forms" s_check_forms) : Has P w K mg base 1 "check_forms" ["forms"] sp_check_forms := by
  refine has_of D sc_check_forms (fun _ _ _ _ _ _ us hl => match us, hl with | [_], _ => rfl) (fun vs H Q E h => ?_) (fun f cdv A outer s H vs Q E hr h => ?_)
  · obtain ⟨_, _, rfl, _⟩ := h
    rfl
  · obtain ⟨a, n, rfl, ha, q⟩ := h
    refine ⟨_, (pss_one (ps_if (pt_cmpR op_in_seq pe_bl (pv 0) (by with_unfolding_all rfl)) (pss_one ps_never) pss_nil)), ?_⟩
    exact ⟨_, rfl, a, _, rfl, .inl (.of ha), rfl, all_flat n, _, rfl, iteN (no_false n) q⟩
end
end UP

set_option Elab.async false
set_option linter.all false
set_option maxRecDepth 100000
set_option maxHeartbeats 4000000
set_option pp.maxSteps 300
namespace UP
open PySem PySem.Spec PyProof.Rows L2
/-! ### lists or tuples, and the bag -/
theorem Sq2.bag {H H' : Hp} {pb cl a : Addr} {n : Nat} {xs : List V} (z : Bag H pb cl n) (b : But pb H H') (na : a ≠ pb) (h : Sq2 H a xs) : Sq2 H' a xs := h.elim (fun e => .inl (b _ _ na e)) (fun e => .inr (b _ _ na e))
theorem en_list {k : Option Str} {x : Str} {cl : Addr} {a b c d : Int} : HO.lst [koV k, .str x] ≠ .lst [.ref cl, .int a, .int b, .int c, .int d] := by
  intro q
  have := congrArg (fun o => match o with | HO.lst l => l.length | _ => 0) q
  exact absurd (show (2 : Nat) = 5 from this) (by decide)
theorem EnG.bag {H H' : Hp} {pb cl : Addr} {n : Nat} {v : V} {e : En} (z : Bag H pb cl n) (b : But pb H H') (h : EnG H v e) : EnG H' v e := by
  obtain ⟨t, rfl, ht⟩ := h
  obtain ⟨q, h1, _⟩ := id z
  refine ⟨t, rfl, ht.bag z b ?_⟩
  rcases ht with e | e
  · exact ne_of e h1 en_list
  · exact ne_of e h1 (by intro y; cases y)
theorem EnV.bag {H H' : Hp} {pb cl : Addr} {n : Nat} {v : V} {e : En} (z : Bag H pb cl n) (b : But pb H H') (h : EnV H v e) : EnV H' v e := by
  obtain ⟨q, h1, _⟩ := id z
  exact h.tk fun t xs e => b _ _ (ne_of e h1 (by intro y; cases y)) e
def octo : List (Option Str) := [none, some "a", some "b", some "abcdefgh", some "zz", some "waits", some "leaves", some "x"]
theorem octo_ok : ∀ o ∈ octo, ∀ k, o = some k → KindOk k := by
  intro o ho k e
  subst e
  simp only [octo, List.mem_cons, List.not_mem_nil, or_false, Option.some.injEq, reduceCtorEq, false_or] at ho
  rcases ho with e | e | e | e | e | e | e <;> (subst e; decide +kernel)
section
variable {P : Program} {w : World} {K : PySem.W.Frag} {mg : Str → Option Value} {base : Heap}
/-! _law_either: slots 0:bag 1:items -/
abbrev s_law_either : Stmt := topS 37
theorem sc_law_either : FnScope ["bag", "items"] ["bag", "items"] (defScope s_law_either) := ⟨rfl, rfl, rfl, by decide +kernel, rfl, by decide +kernel, by decide +kernel⟩
def sp_law_either : Sp := fun vs H Q _ => ∃ (pb cl a : Addr) (n : Nat) (xs : List V), vs = [.ref pb, .ref a] ∧ Bag H pb cl n ∧ n + 1 ≤ 1000000000000000 ∧ Sq2 H a xs ∧ a ≠ pb ∧ ∀ H' p, But pb H H' → Bag H' pb cl (n + 1) → p ≠ pb → Sq2 H' p xs → Q (.ref p) H'
theorem ok_law_either (D : Df K mg "_law_either" s_law_either) (T : Tx mg) (G_law_draw : Has P w K mg base 2 "_law_draw" ["bag", "bound"] sp_law_draw) : Has P w K mg base 3 "_law_either" ["bag", "items"] sp_law_either := by
  refine has_of D sc_law_either (fun _ _ _ _ _ _ us hl => match us, hl with | [_, _], _ => rfl) (fun vs H Q E h => ?_) (fun f cdv A outer s₀ H vs Q E hr h => ?_)
  · obtain ⟨_, _, _, _, _, rfl, _⟩ := h
    rfl
  · obtain ⟨pb, cl, a, n, xs, rfl, z, ln, hx, na, q⟩ := h
    refine ⟨_, (pss_one (ps_ret (pe_ix ix_list (pe_lst (pa_cons (pe_callTy call_list_of (by rfl) T.n_list (by decide +kernel) (pa_cons (pv 1) pa_nil)) (pa_cons (pe_callTy call_tuple_of (by rfl) T.n_tuple (by decide +kernel) (pa_cons (pv 1) pa_nil)) pa_nil))) (pe_callH G_law_draw (hr.mono (by omega)) (by rfl) (pa_cons (pv 0) (pa_cons pe_int pa_nil))) (fun _ _ => rfl)))), ?_⟩
    have fin : ∀ (H1 : Hp) (l t : Addr), Same H H1 → l ≠ pb → t ≠ pb → Sq2 H1 l xs → Sq2 H1 t xs → ∀ m, H1 m = none → ∀ (H2 : Hp) (r : Int), But pb (upd H1 m (.lst [.ref l, .ref t])) H2 → Bag H2 pb cl (n + 1) → 0 ≤ r → r < 2 → rIxL K (.ref m) (.int r) H2 Q := fun H1 l t s1 nl nt hl ht m nm H2 r b2 z2 r0 r1 => by
      have sm := same_upd (o := .lst [.ref l, .ref t]) nm
      have mp : m ≠ pb := (z.same s1).ne nm
      have hm := b2 _ _ mp (upd_same (H := H1) (a := m) (o := .lst [.ref l, .ref t]))
      have B : But pb H H2 := (Same.but (s1.trans sm)).trans b2
      have z1 := (z.same s1).same sm
      rcases (show r = 0 ∨ r = 1 by omega) with e | e
      · subst e
        exact ⟨m, _, 0, _, rfl, rfl, .of hm, at0, q _ l B z2 nl ((hl.same sm).bag z1 b2 nl)⟩
      · subst e
        exact ⟨m, _, 1, _, rfl, rfl, .of hm, at1, q _ t B z2 nt ((ht.same sm).bag z1 b2 nt)⟩
    rcases hx with hx | hx
    · refine ⟨_, rfl, a, _, rfl, .inl (.of hx), fun l nl => ?_⟩
      have s1 := same_upd (o := .lst xs) nl
      refine ⟨_, rfl, a, _, rfl, .inl ⟨.of (s1 _ _ hx), fun t nt => ?_⟩⟩
      have s2 := s1.trans (same_upd (o := .tup xs) nt)
      refine ⟨(by show 2 ≤ sizeLine; decide), fun m nm => ⟨_, rfl, pb, cl, n, 2, rfl, (z.same s2).same (same_upd nm), ln, by decide, by decide, fun H2 r b2 z2 r0 r1 => ?_⟩⟩
      exact fin _ l t s2 (z.ne nl) ((z.same s1).ne nt) (.inl (same_upd nt _ _ upd_same)) (.inr upd_same) m nm H2 r b2 z2 r0 r1
    · refine ⟨_, rfl, a, _, rfl, .inr (.of hx), fun l nl => ?_⟩
      have s1 := same_upd (o := .lst xs) nl
      refine ⟨_, rfl, a, _, rfl, .inr ⟨.of (s1 _ _ hx), ?_⟩⟩
      refine ⟨(by show 2 ≤ sizeLine; decide), fun m nm => ⟨_, rfl, pb, cl, n, 2, rfl, (z.same s1).same (same_upd nm), ln, by decide, by decide, fun H2 r b2 z2 r0 r1 => ?_⟩⟩
      exact fin _ l a s1 (z.ne nl) na (.inl upd_same) (.inr (s1 _ _ hx)) m nm H2 r b2 z2 r0 r1
end
/-! ### records as data -/
def koD : Option Str → PyData
  | none => .none
  | some s => .str s
def dEn (e : En) : PyData := .tuple [koD e.1, .str (actS e.2)]
theorem act_ok (b : Bool) : KindOk (actS b) := by cases b <;> decide +kernel
theorem nice_ko {k : Option Str} (h : ∀ s, k = some s → KindOk s) : Nice 8 0 (koD k) := by
  cases k with
  | none => exact nice_none.mono (by decide) (Nat.le_refl _)
  | some s => exact nice_str (h s rfl)
theorem dp_ko {K : PySem.W.Frag} {H : Hp} (k : Option Str) : Dp K H (koV k) (koD k) := by
  cases k with
  | none => exact .non
  | some s => exact .str s
theorem nice_en {e : En} (h : EnOk e) : Nice 18 1 (dEn e) := by
  have := nice_tup (w := 8) (n := 0) (ds := [koD e.1, .str (actS e.2)]) fun d hd => by
    rcases List.mem_cons.mp hd with z | z
    · rw [z]
      exact nice_ko h
    · rw [List.mem_singleton.mp z]
      exact nice_str (act_ok e.2)
  exact this
theorem nice_rec {es : List En} (h : ∀ e ∈ es, EnOk e) (l : es.length ≤ 400) : Nice 7600 2 (.list (es.map dEn)) := by
  have := nice_list (w := 18) (n := 1) (ds := es.map dEn) fun d hd => by
    obtain ⟨e, he, rfl⟩ := List.mem_map.mp hd
    exact nice_en (h e he)
  exact this.mono (by rw [List.length_map]; omega) (Nat.le_refl _)
theorem dp_en {K : PySem.W.Frag} {H : Hp} {v : V} {e : En} (h : EnV H v e) : Dp K H v (dEn e) := by
  obtain ⟨t, rfl, ht⟩ := h
  exact .tup (.of ht) (.cons (dp_ko _) (.cons (.str _) .nil))
theorem dp_ens {K : PySem.W.Frag} {H : Hp} : ∀ {xs : List V} {es : List En}, Paired (EnV H) xs es → DpAll K H xs (es.map dEn)
  | [], [], _ => .nil
  | _ :: _, _ :: _, .cons h t => .cons (dp_en h) (dp_ens t)
theorem dp_rec {K : PySem.W.Frag} {H : Hp} {a : Addr} {es : List En} (h : Rec H a es) : Dp K H (.ref a) (.list (es.map dEn)) := by
  obtain ⟨xs, hx, hp⟩ := h
  exact .lst (.of hx) (dp_ens hp)
theorem dps_rec {K : PySem.W.Frag} {H : Hp} {v : V} {es : List En} (h : RecG H v es) (ok : ∀ e ∈ es, EnOk e) (l : es.length ≤ 400) : ∃ d, DpS K H v d ∧ Nice 7600 2 d := by
  obtain ⟨a, xs, rfl, hx, hp⟩ := h
  have lx : xs.length = es.length := Paired.len hp
  obtain ⟨d, h1, h2⟩ := dps_seq (K := K) (w := 18) (n := 1) hx fun x hx => by
    obtain ⟨i, hi, e⟩ := List.mem_iff_getElem.mp hx
    obtain ⟨r, er, t, et, hr⟩ := Paired.at hp (List.getElem?_eq_getElem hi)
    rw [e] at et
    subst et
    have okr := ok r (List.mem_of_getElem? er)
    have := dps_seq (K := K) (w := 8) (n := 0) hr fun x hx => by
      rcases List.mem_cons.mp hx with e | e
      · rw [e]
        exact ⟨koD r.1, fun _ _ => dp_ko _, nice_ko okr⟩
      · rw [List.mem_singleton.mp e]
        exact ⟨.str (actS r.2), fun _ _ => .str _, nice_str (act_ok r.2)⟩
    exact this
  exact ⟨d, h1, h2.mono (by rw [lx]; omega) (Nat.le_refl _)⟩
theorem eqv_nilR (es : List En) : PyData.eqv (.list (es.map dEn)) (.list []) = es.isEmpty := by
  cases es with
  | nil => simp [PyData.eqv, PyData.eqvAll]
  | cons x t => simp [PyData.eqv, PyData.eqvAll]
end UP

set_option Elab.async false
set_option linter.all false
set_option maxRecDepth 100000
set_option maxHeartbeats 4000000
set_option pp.maxSteps 300
namespace UP
open PySem PySem.Spec PyProof.Rows L2
/-! ### words of runs -/
def nS (n : Int) : Str := Str.ofString (toString n)
def rwS (r : Run) : Str := if r.2 = 1 then r.1 else r.1 ++ "*" ++ nS r.2
def sqS (rs : List Run) : Str := Txt.join " " (rs.map rwS)
def stS : Option Run → Str
  | none => "-"
  | some r => rwS r
theorem tl_star : TL.tl ("*" : Str) = [42] := by decide +kernel
theorem tl_nS {n : Int} (h : 0 ≤ n) : TL.tl (nS n) = TL.numL n.toNat := by
  obtain ⟨k, rfl⟩ : ∃ k : Nat, n = k := ⟨n.toNat, by omega⟩
  rw [Int.toNat_natCast]
  exact TL.tl_num k
theorem nS_digits {n : Int} (h : 0 ≤ n) : ∀ c ∈ TL.tl (nS n), 48 ≤ c ∧ c ≤ 57 := fun c hc => by
  rw [tl_nS h] at hc
  by_cases a : c < 48 ∨ 57 < c
  · exact absurd hc (TL.numL_free a)
  · omega
theorem nS_ne {n : Int} (h : 0 ≤ n) : TL.tl (nS n) ≠ [] := by
  rw [tl_nS h]
  exact TL.numL_ne _
theorem nS_len {n : Int} (h : 0 ≤ n) (l : n < 10000000000000000000000000000000000000000) : (nS n).length ≤ 40 := by
  rw [TL.len_tl, tl_nS h]
  refine TL.numL_len (by decide) ?_
  have : (10 : Nat) ^ 40 = 10000000000000000000000000000000000000000 := by decide +kernel
  rw [this]
  omega
theorem tl_rw {r : Run} (h : r.2 ≠ 1) : TL.tl (rwS r) = TL.tl r.1 ++ [42] ++ TL.tl (nS r.2) := by
  unfold rwS
  rw [if_neg h, TL.tl_append, TL.tl_append, tl_star]
theorem tl_rw1 {r : Run} (h : r.2 = 1) : rwS r = r.1 := if_pos h
/-- a run whose word is read -/
def RwOk (r : Run) : Prop := KindOk r.1 ∧ 1 ≤ r.2 ∧ r.2 ≤ 1000000000000000000000000000000000000000
theorem RunOk.rw {r : Run} (h : RunOk r) : RwOk r := ⟨h.1, h.2.1, by have := h.2.2; omega⟩
theorem rw_free {r : Run} (h : RwOk r) {s : Nat} (hs : s < 42) : s ∉ TL.tl (rwS r) := fun hm => by
  by_cases c : r.2 = 1
  · rw [tl_rw1 c] at hm
    have := kind_tl h.1 hm
    omega
  · rw [tl_rw c] at hm
    rcases List.mem_append.mp hm with z | z
    · rcases List.mem_append.mp z with y | y
      · have := kind_tl h.1 y
        omega
      · have := List.mem_singleton.mp y
        omega
    · have := nS_digits (by have := h.2.1; omega) s z
      omega
theorem kind_ne {k : Str} (h : KindOk k) : TL.tl k ≠ [] := fun e => by
  have := h.1
  rw [TL.len_tl, e] at this
  exact absurd this (by decide)
theorem rw_ne {r : Run} (h : RwOk r) : TL.tl (rwS r) ≠ [] := by
  by_cases c : r.2 = 1
  · rw [tl_rw1 c]
    exact kind_ne h.1
  · rw [tl_rw c]
    intro e
    have := (List.append_eq_nil_iff.mp (List.append_eq_nil_iff.mp e).1).1
    exact kind_ne h.1 this
theorem rw_len {r : Run} (h : RwOk r) : (rwS r).length ≤ 49 := by
  have h1 := h.1.2.1
  by_cases c : r.2 = 1
  · rw [tl_rw1 c]
    omega
  · have h2 := nS_len (n := r.2) (by have := h.2.1; omega) (by have := h.2.2; omega)
    rw [TL.len_tl, tl_rw c, List.length_append, List.length_append, ← TL.len_tl, ← TL.len_tl]
    show r.1.length + 1 + _ ≤ 49
    omega
theorem sq_words {rs : List Run} (h : ∀ r ∈ rs, RwOk r) : ∀ x ∈ rs.map rwS, 32 ∉ TL.tl x ∧ TL.tl x ≠ [] := fun x hx => by
  obtain ⟨r, hr, rfl⟩ := List.mem_map.mp hx
  exact ⟨rw_free (h r hr) (by decide), rw_ne (h r hr)⟩
theorem sq_len {rs : List Run} (h : ∀ r ∈ rs, RwOk r) (l : rs.length ≤ 400) : (sqS rs).length ≤ 20000 := by
  have h1 := join_len (rs.map rwS)
  have h2 := sum_le (ws := rs.map rwS) (n := 49) (fun w hw => by
    obtain ⟨e, he, rfl⟩ := List.mem_map.mp hw
    exact rw_len (h e he))
  rw [List.length_map] at h1 h2
  show (Txt.join " " (rs.map rwS)).length ≤ 20000
  omega
/-- a word's three parts -/
def rwP (r : Run) : Str × Str × Str := if r.2 = 1 then (r.1, Str.empty, Str.empty) else (r.1, "*", nS r.2)
theorem rw_part {r : Run} (h : RwOk r) : Txt.partition (rwS r) "*" = rwP r := by
  have hf : 42 ∉ TL.tl r.1 := fun hm => by
    have := kind_tl h.1 hm
    omega
  unfold rwP
  by_cases c : r.2 = 1
  · rw [tl_rw1 c, if_pos c]
    exact TL.partition_none tl_star hf
  · unfold rwS
    rw [if_neg c, if_neg c]
    exact TL.partition_app tl_star hf
theorem empty_eq : (Str.empty : Str) = "" := by decide +kernel
theorem join_one (w : Str) : Txt.join " " [w] = w := by
  refine TL.ext_tl ?_
  rw [TL.join_eq, TL.tl_join]
  rfl
/-! ### a text several times -/
def repS (z : Str) (n : Int) : Str := ⟨(List.replicate n.toNat z.cps).foldl (· ++ ·) #[]⟩
theorem rep_size (a : Array Nat) : ∀ (n : Nat) (acc : Array Nat), ((List.replicate n a).foldl (· ++ ·) acc).size = acc.size + n * a.size
  | 0, acc => by simp
  | n + 1, acc => by
    rw [List.replicate_succ, List.foldl_cons, rep_size a n, Array.size_append, Nat.succ_mul]
    omega
section
variable {X : Cx}
theorem op_rep_str : OpR X (binaryOp .Mult) (fun x y H Q => ∃ (z : Str) (n : Int), x = .str z ∧ y = .int n ∧ 2 ≤ n ∧ n ≤ 1000 ∧ 1 ≤ z.length ∧ z.length ≤ 1000 ∧ Q (.str (repS z n)) H) := by
  intro pins s σ H x y v u Q I rx ry h
  obtain ⟨z, n, rfl, rfl, n2, n1, z1, z2, q⟩ := h
  obtain ⟨t, rfl⟩ := rx
  obtain ⟨t', rfl⟩ := ry
  have c0 : ¬ n < 1 := by omega
  have c1 : (n == 1 || z.length == 0) = false := by
    rw [Bool.or_eq_false_iff]
    exact ⟨beq_eq_false_iff_ne.mpr (by omega), beq_eq_false_iff_ne.mpr (by omega)⟩
  have big : z.length * n.toNat ≤ 1000000 := Nat.le_trans (Nat.mul_le_mul z2 (show n.toNat ≤ 1000 by omega)) (by decide)
  refine PySem.P.mul_str ?_ (fun _ _ => ?_) (fun _ _ => ?_) ?_
  · rw [decide_eq_false (by omega), decide_eq_false (by omega)]
    rfl
  · have h1 : (1000 : Int) ≤ (2 ^ 63 - 1) / n := (Int.le_ediv_iff_mul_le (by omega)).mpr (by omega)
    omega
  · exact PyProof.Rows.short24 (by omega)
  · rw [if_neg c0, if_neg (by rw [c1]; decide)]
    refine ⟨?_, .str (repS z n), H, I.tok _, ⟨_, rfl⟩, q⟩
    refine Nat.le_of_lt (small ?_)
    show (repS z n).cps.size ≤ _
    unfold repS
    rw [rep_size]
    show 0 + n.toNat * z.length ≤ _
    rw [Nat.mul_comm]
    omega
end
end UP

set_option Elab.async false
set_option linter.all false
set_option maxRecDepth 100000
set_option maxHeartbeats 4000000
set_option pp.maxSteps 300
namespace UP
open PySem PySem.Spec PyProof.Rows L2
theorem str_app_len (a b : Str) : (a ++ b).length = a.length + b.length := by
  rw [TL.len_tl, TL.tl_append, List.length_append, ← TL.len_tl, ← TL.len_tl]
theorem star_len : ("*" : Str).length = 1 := by decide +kernel
theorem c48 : (("0" : Str).cps.getD 0 0 : Nat) = 48 := by decide +kernel
def dgF (l : List Nat) : Int := l.foldl (fun (t : Int) (c : Nat) => t * 10 + ((c : Int) - 48)) 0
theorem dgF_snoc (l : List Nat) (c : Nat) : dgF (l ++ [c]) = dgF l * 10 + ((c : Int) - 48) := by
  unfold dgF
  rw [List.foldl_append]
  rfl
theorem dgF_nS {n : Int} (h : 0 ≤ n) : dgF (TL.tl (nS n)) = n := by
  rw [tl_nS h]
  have := TL.fold_num n.toNat
  unfold dgF
  rw [this]
  omega
theorem log_bd40 {i : Int} (h0 : 0 ≤ i) (h1 : i ≤ 10000000000000000000000000000000000000000) : i.natAbs.log2 < 1920 := by
  have h : i.natAbs < 2 ^ 1920 := Nat.lt_of_le_of_lt (m := 10000000000000000000000000000000000000000) (by omega) (by decide +kernel)
  by_cases c : i.natAbs = 0
  · rw [c]
    decide
  · exact (Nat.log2_lt c).mpr h
theorem nI {r k : Int} (h : r ≠ k) : decide (V.int r = V.int k) = false := decide_eq_false (fun e => h (V.int.inj e))
section
variable {P : Program} {w : World} {K : PySem.W.Frag} {mg : Str → Option Value} {base : Heap}
/-! is_digits: slots 0:word 1:letter -/
abbrev s_is_digits : Stmt := topS 20
theorem sc_is_digits : FnScope ["word", "letter"] ["word"] (defScope s_is_digits) := ⟨rfl, rfl, rfl, by decide +kernel, rfl, by decide +kernel, by decide +kernel⟩
def sp_is_digits : Sp := fun vs H Q _ => ∃ z : Str, vs = [.str z] ∧ TL.tl z ≠ [] ∧ z.length ≤ 100000 ∧ (∀ c ∈ TL.tl z, 48 ≤ c ∧ c ≤ 57) ∧ ∀ H', Same H H' → Q (.bl true) H'
theorem ok_is_digits (D : Df K mg "is_digits" s_is_digits) (T : Tx mg) : Has P w K mg base 1 "is_digits" ["word"] sp_is_digits := by
  refine has_of D sc_is_digits (fun _ _ _ _ _ _ us hl => match us, hl with | [_], _ => rfl) (fun vs H Q E h => ?_) (fun f cdv A outer s H vs Q E hr h => ?_)
  · obtain ⟨n, rfl, _⟩ := h
    rfl
  · obtain ⟨z, rfl, ne, lz, dg, q⟩ := h
    refine ⟨_, (pss_one (ps_ret (pe_and (pe_cmpR op_ne (pv 0) pe_str (nomark _)) (pe_one (pe_callB (cr_all rfl) (by rfl) T.n_all (by decide +kernel) (pa_cons (pe_lc (own := [("letter", 1)]) rfl sc_is_digits.nd (pi_str (pv 0)) (blkOk_by (N := ["word", "letter"]) (sc := defScope s_is_digits) (by decide +kernel)) (fun _ _ _ _ _ => (pg_name (i := 1) sc_is_digits.nd rfl (by first | exact Or.inl rfl | exact Or.inr rfl))) (fun _ _ _ _ _ => pts_nil) (fun _ _ _ _ _ => (pe_chain op_le_str op_le_str pe_str (pv 1) pe_str))) pa_nil)))))), ?_⟩
    have nez : z ≠ "" := fun e => ne (by rw [e]; decide +kernel)
    refine ⟨_, rfl, rfl, true, congrArg V.bl (show (!decide (V.str z = V.str "")) = true by rw [decide_eq_false (fun e => nez (V.str.inj e))]; rfl), iteT ?_⟩
    refine ⟨_, rfl, z, rfl, fun L nL => lc_gen (n := z.cps.size) (fun i H' => Same H H' ∧ H' L = some (.lst ((List.replicate i true).map V.bl))) ⟨same_upd nL, upd_same⟩ (fun i H' hi _ => hi) (fun H' _ => Nat.le_refl _) (fun i x H1 H2 hi p y => ?_) (fun H' p => ?_)⟩
    · obtain ⟨rfl, c, ec, rfl⟩ := y
      obtain ⟨sm, hL⟩ := p
      have hc : 48 ≤ c ∧ c ≤ 57 := dg c (by
        have := Array.mem_of_getElem? ec
        show c ∈ z.cps.toList
        simpa using this)
      have ea : ("0" : Str).cps.toList = [48] := by decide +kernel
      have ez : ("9" : Str).cps.toList = [57] := by decide +kernel
      refine ⟨rfl, yesT ⟨_, rfl, _, _, rfl, rfl, _, rfl, iteP ?_ ⟨_, _, rfl, rfl, _, hL, ?_, ?_, ?_⟩⟩⟩
      · show (!decide (([c] : List Nat) < ("0" : Str).cps.toList)) = true
        rw [ea, lex1]
        exact decide_eq_true hc.1
      · simp only [List.length_map, List.length_replicate]
        exact small (by have : z.cps.size = z.length := rfl; omega)
      · intro b o e
        have nb : b ≠ L := ne_of_none e nL
        rw [upd_ne nb]
        exact sm b o e
      · rw [upd_same]
        have e1 : (!decide ((("9" : Str).cps.toList) < ([c] : List Nat))) = true := by
          rw [ez, lex1]
          exact decide_eq_true hc.2
        show some (HO.lst ((List.replicate i true).map V.bl ++ [V.bl (!decide ((("9" : Str).cps.toList) < ([c] : List Nat)))])) = _
        rw [e1, List.replicate_succ', List.map_append]
        rfl
    · refine ⟨L, _, rfl, .of p.2, ?_⟩
      have e : ((List.replicate z.cps.size true).all id) = true := by simp
      rw [e]
      exact q H' p.1
/-! number_in: slots 0:digits 1:number 2:digit -/
abbrev s_number_in : Stmt := topS 21
theorem sc_number_in : FnScope ["digits", "number", "digit"] ["digits"] (defScope s_number_in) := ⟨rfl, rfl, rfl, by decide +kernel, rfl, by decide +kernel, by decide +kernel⟩
def sp_number_in : Sp := fun vs H Q _ => ∃ n : Int, vs = [.str (nS n)] ∧ 0 ≤ n ∧ n < 10000000000000000000000000000000000000000 ∧ Q (.int n) H
theorem ok_number_in (D : Df K mg "number_in" s_number_in) (T : Tx mg) : Has P w K mg base 1 "number_in" ["digits"] sp_number_in := by
  refine has_of D sc_number_in (fun _ _ _ _ _ _ us hl => match us, hl with | [_], _ => rfl) (fun vs H Q E h => ?_) (fun f cdv A outer s H vs Q E hr h => ?_)
  · obtain ⟨n, rfl, _⟩ := h
    rfl
  · obtain ⟨n, rfl, n0, n1, q⟩ := h
    have ln := nS_len n0 n1
    have dg := nS_digits n0
    have ev := dgF_nS n0
    generalize nS n = z at *
    refine ⟨_, (pss_cons (ps_set (i := 1) sc_number_in.nd rfl (by first | exact Or.inl rfl | exact Or.inr rfl) pe_int)
    (pss_cons (ps_for PassesOwn.never rfl (pi_str (pv 0)) (pg_name (i := 2) sc_number_in.nd rfl (by first | exact Or.inl rfl | exact Or.inr rfl))
      (pss_one (ps_set (i := 1) sc_number_in.nd rfl (by first | exact Or.inl rfl | exact Or.inr rfl) (pe_op op_sub (pe_op op_add (pe_op op_mulW pe_int (pv 1)) (pe_callB call_ord (by rfl) T.n_ord (by decide +kernel) (pa_cons (pv 2) pa_nil))) (pe_callB call_ord (by rfl) T.n_ord (by decide +kernel) (pa_cons pe_str pa_nil))))))
    (pss_one (ps_ret (pv 1))))), ?_⟩
    refine ⟨_, rfl, z, rfl, for_gen (n := z.cps.size) (fun i σ H' => ∃ (y : Option V) (k : Nat), σ = [some (.str z), some (.int k), y] ∧ H' = H ∧ (k : Int) = dgF ((TL.tl z).take i) ∧ k < 10 ^ i) ⟨none, 0, rfl, rfl, rfl, by decide⟩ (fun i σ H' hi _ => hi) (fun σ H' _ => Nat.le_refl _) (fun i x σ H1 H2 hi p y => ?_) (fun σ H' p => ?_)⟩
    · obtain ⟨rfl, c, ec, rfl⟩ := y
      obtain ⟨y, k, rfl, rfl, ek, lk⟩ := p
      have hc : 48 ≤ c ∧ c ≤ 57 := dg c (by
        have := Array.mem_of_getElem? ec
        show c ∈ z.cps.toList
        simpa using this)
      have l40 : i ≤ 40 := by
        have : z.cps.size = z.length := rfl
        omega
      have bk : ((k : Nat) : Int).natAbs < 2 ^ 200 := by
        have h1 : (10 : Nat) ^ i ≤ 10 ^ 40 := Nat.pow_le_pow_right (by decide) l40
        have h2 : (10 : Nat) ^ 40 < 2 ^ 200 := by decide +kernel
        have : ((k : Nat) : Int).natAbs = k := Int.natAbs_natCast k
        omega
      refine ⟨_, rfl, _, _, rfl, rfl, wide_mul (a := 10) (b := 200) (by decide) bk (by decide) (by decide) (by decide), ?_⟩
      refine ⟨_, rfl, ⟨#[c]⟩, rfl, rfl, _, _, rfl, rfl, "0", rfl, (by decide +kernel), _, _, rfl, rfl, ?_⟩
      have e0 : ((⟨#[c]⟩ : Str).cps.getD 0 0 : Nat) = c := rfl
      rw [c48, e0]
      have et : (TL.tl z)[i]? = some c := by
        show z.cps.toList[i]? = some c
        rw [Array.getElem?_toList]
        exact ec
      refine ⟨some (.str ⟨#[c]⟩), 10 * k + (c - 48), ?_, rfl, ?_, ?_⟩
      · have : (10 * (k : Int) + (c : Int) - ((48 : Nat) : Int)) = ((10 * k + (c - 48) : Nat) : Int) := by omega
        show [some (V.str z), some (V.int (10 * (k : Int) + (c : Int) - ((48 : Nat) : Int))), some (V.str ⟨#[c]⟩)] = _
        rw [this]
      · rw [take_snoc et, dgF_snoc, ← ek]
        omega
      · rw [Nat.pow_succ]
        omega
    · obtain ⟨y, k, rfl, rfl, ek, _⟩ := p
      have : z.cps.size = (TL.tl z).length := TL.len_tl z
      rw [this, List.take_length, ev] at ek
      rw [← ek] at q
      exact ⟨_, rfl, q⟩
/-! run_word: slots 0:run 1:kind 2:count -/
abbrev s_run_word : Stmt := topS 22
theorem sc_run_word : FnScope ["run", "kind", "count"] ["run"] (defScope s_run_word) := ⟨rfl, rfl, rfl, by decide +kernel, rfl, by decide +kernel, by decide +kernel⟩
def sp_run_word : Sp := fun vs H Q _ => ∃ (v : V) (r : Run), vs = [v] ∧ RunG H v r ∧ RwOk r ∧ Q (.str (rwS r)) H
theorem ok_run_word (D : Df K mg "run_word" s_run_word) (T : Tx mg) : Has P w K mg base 1 "run_word" ["run"] sp_run_word := by
  refine has_of D sc_run_word (fun _ _ _ _ _ _ us hl => match us, hl with | [_], _ => rfl) (fun vs H Q E h => ?_) (fun f cdv A outer s H vs Q E hr h => ?_)
  · obtain ⟨_, _, rfl, _⟩ := h
    rfl
  · obtain ⟨v, r, rfl, ⟨t, rfl, ht⟩, ok, q⟩ := h
    have l1 := ok.1.2.1
    have l2 := nS_len (n := r.2) (by have := ok.2.1; omega) (by have := ok.2.2; omega)
    refine ⟨_, (pss_cons (ps_asg (pv 0) (pg_any (n := 2) rfl (pgs_cons (pg_name (i := 1) sc_run_word.nd rfl (by first | exact Or.inl rfl | exact Or.inr rfl)) (pgs_cons (pg_name (i := 2) sc_run_word.nd rfl (by first | exact Or.inl rfl | exact Or.inr rfl)) pgs_nil))))
    (pss_one (ps_ret (pe_ifExp (pt_cmpR op_eq (pv 2) pe_int (nomark _)) (pv 1) (pe_joined (.cons (pe_fmt (pv 1)) (.cons pe_str (.cons (pe_fmt (pv 2)) .nil)))))))), ?_⟩
    refine ⟨_, rfl, t, _, rfl, ht, rfl, _, _, rfl, _, _, rfl, rfl, ?_⟩
    by_cases c : r.2 = 1
    · refine ⟨_, rfl, rfl, _, rfl, iteP (decide_eq_true (congrArg V.int c)) ⟨_, rfl, ?_⟩⟩
      rw [tl_rw1 c] at q
      exact q
    · refine ⟨_, rfl, rfl, _, rfl, iteN (nI c) ?_⟩
      have e1 : Str.empty ++ r.1 = r.1 := TL.ext_tl (by rw [TL.tl_append]; rfl)
      refine ⟨_, rfl, .inl ⟨r.1, rfl, smallE (by omega), r.1, rfl, smallE (by rw [e1]; omega), "*", rfl, smallE (by rw [e1, str_app_len, star_len]; omega), _, rfl, .inr ⟨r.2, rfl, log_bd40 (by have := ok.2.1; omega) (by have := ok.2.2; omega), nS r.2, rfl, smallE (by rw [e1, str_app_len, str_app_len, star_len]; omega), ?_⟩⟩⟩
      rw [e1]
      have e2 : rwS r = r.1 ++ "*" ++ nS r.2 := if_neg c
      rw [e2] at q
      exact q
/-! is_run_word: slots 0:word 1:kind 2:star 3:digits -/
abbrev s_is_run_word : Stmt := topS 23
theorem sc_is_run_word : FnScope ["word", "kind", "star", "digits"] ["word"] (defScope s_is_run_word) := ⟨rfl, rfl, rfl, by decide +kernel, rfl, by decide +kernel, by decide +kernel⟩
def sp_is_run_word : Sp := fun vs H Q _ => ∃ r : Run, vs = [.str (rwS r)] ∧ RwOk r ∧ ∀ H', Same H H' → Q (.bl true) H'
theorem ok_is_run_word (D : Df K mg "is_run_word" s_is_run_word) (G_is_kind : Has P w K mg base 1 "is_kind" ["value"] sp_is_kind) (G_is_digits : Has P w K mg base 1 "is_digits" ["word"] sp_is_digits) : Has P w K mg base 2 "is_run_word" ["word"] sp_is_run_word := by
  refine has_of D sc_is_run_word (fun _ _ _ _ _ _ us hl => match us, hl with | [_], _ => rfl) (fun vs H Q E h => ?_) (fun f cdv A outer s H vs Q E hr h => ?_)
  · obtain ⟨_, rfl, _⟩ := h
    rfl
  · obtain ⟨r, rfl, ok, q⟩ := h
    have lw := rw_len ok
    refine ⟨_, (pss_cons (ps_asg (pe_partition (pv 0) pe_str) (pg_tup rfl (pgs_cons (pg_name (i := 1) sc_is_run_word.nd rfl (by first | exact Or.inl rfl | exact Or.inr rfl)) (pgs_cons (pg_name (i := 2) sc_is_run_word.nd rfl (by first | exact Or.inl rfl | exact Or.inr rfl)) (pgs_cons (pg_name (i := 3) sc_is_run_word.nd rfl (by first | exact Or.inl rfl | exact Or.inr rfl)) pgs_nil)))))
    (pss_one (ps_ret (pe_and (pe_callH G_is_kind (hr.mono (by omega)) (by rfl) (pa_cons (pv 1) pa_nil)) (pe_one (pe_or (pe_cmpR op_eq (pv 2) pe_str (nomark _)) (pe_one (pe_callH G_is_digits (hr.mono (by omega)) (by rfl) (pa_cons (pv 3) pa_nil))))))))), ?_⟩
    refine ⟨_, rfl, ⟨_, rfl⟩, _, _, rfl, rfl, (by decide +kernel), smallE (by omega), fun p np => ?_⟩
    rw [rw_part ok]
    have s1 := same_upd (o := .tup [.str (rwP r).1, .str (rwP r).2.1, .str (rwP r).2.2]) np
    refine ⟨p, _, rfl, .of upd_same, rfl, _, _, rfl, _, _, rfl, _, _, rfl, rfl, ?_⟩
    have e1 : (rwP r).1 = r.1 := by
      unfold rwP
      split <;> rfl
    refine ⟨_, rfl, r.1, congrArg (fun x => [V.str x]) e1, ok.1, fun H2 s2 => ⟨true, rfl, iteT ?_⟩⟩
    by_cases c : r.2 = 1
    · have e2 : (rwP r).2.1 = "" := by
        unfold rwP
        rw [if_pos c]
        exact empty_eq
      refine ⟨_, rfl, rfl, true, congrArg V.bl (decide_eq_true (by rw [e2])), iteT (q _ (s1.trans s2))⟩
    · have e2 : (rwP r).2.1 = "*" := by
        unfold rwP
        rw [if_neg c]
      have e3 : (rwP r).2.2 = nS r.2 := by
        unfold rwP
        rw [if_neg c]
      have n0 : 0 ≤ r.2 := by have := ok.2.1; omega
      refine ⟨_, rfl, rfl, false, congrArg V.bl (decide_eq_false (fun e => by rw [e2] at e; exact absurd (V.str.inj e) (by decide +kernel))), iteF ?_⟩
      refine ⟨_, rfl, nS r.2, congrArg (fun x => [V.str x]) e3, nS_ne n0, ?_, nS_digits n0, fun H3 s3 => q _ ((s1.trans s2).trans s3)⟩
      have := nS_len n0 (by have := ok.2.2; omega)
      omega
/-! is_exact: slots 0:word 1:kind 2:star 3:digits -/
abbrev s_is_exact : Stmt := topS 24
theorem sc_is_exact : FnScope ["word", "kind", "star", "digits"] ["word"] (defScope s_is_exact) := ⟨rfl, rfl, rfl, by decide +kernel, rfl, by decide +kernel, by decide +kernel⟩
def sp_is_exact : Sp := fun vs H Q _ => ((∃ r : Run, vs = [.str (rwS r)] ∧ RwOk r) ∨ vs = [.str "-"]) ∧ ∀ H', Same H H' → Q (.bl true) H'
theorem num_head {n : Int} (h : 2 ≤ n) : ∃ c t, TL.tl (nS n) = c :: t ∧ c ≠ 48 := by
  rw [tl_nS (by omega)]
  have : ∀ (k : Nat), 1 ≤ k → ∃ c t, TL.numL k = c :: t ∧ c ≠ 48 := by
    intro k
    induction k using Nat.strongRecOn with
    | ind k ih =>
      intro hk
      by_cases c : k < 10
      · exact ⟨48 + k, [], TL.numL_lt c, by omega⟩
      · obtain ⟨d, t, e, nd⟩ := ih (k / 10) (by omega) (by omega)
        exact ⟨d, t ++ [48 + k % 10], by rw [TL.numL_step (by omega), e]; rfl, nd⟩
  exact this n.toNat (by omega)
theorem num_one {n : Int} (h : 2 ≤ n) : nS n ≠ "1" := fun e => by
  have h1 := dgF_nS (n := n) (by omega)
  rw [e] at h1
  have : dgF (TL.tl ("1" : Str)) = 1 := by decide +kernel
  omega
theorem ok_is_exact (D : Df K mg "is_exact" s_is_exact) : Has P w K mg base 1 "is_exact" ["word"] sp_is_exact := by
  refine has_of D sc_is_exact (fun _ _ _ _ _ _ us hl => match us, hl with | [_], _ => rfl) (fun vs H Q E h => ?_) (fun f cdv A outer s H vs Q E hr h => ?_)
  · obtain ⟨⟨_, rfl, _⟩ | rfl, _⟩ := h <;> rfl
  · obtain ⟨h, q⟩ := h
    refine ⟨_, (pss_cons (ps_asg (pe_partition (pv 0) pe_str) (pg_tup rfl (pgs_cons (pg_name (i := 1) sc_is_exact.nd rfl (by first | exact Or.inl rfl | exact Or.inr rfl)) (pgs_cons (pg_name (i := 2) sc_is_exact.nd rfl (by first | exact Or.inl rfl | exact Or.inr rfl)) (pgs_cons (pg_name (i := 3) sc_is_exact.nd rfl (by first | exact Or.inl rfl | exact Or.inr rfl)) pgs_nil)))))
    (pss_one (ps_ret (pe_or (pe_cmpR op_eq (pv 2) pe_str (nomark _)) (pe_one (pe_and (pe_cmpR op_ne (pe_ix ix_str (pv 3) pe_int (fun _ _ => rfl)) pe_str (nomark _)) (pe_one (pe_cmpR op_ne (pv 3) pe_str (nomark _))))))))), ?_⟩
    rcases h with ⟨r, rfl, ok⟩ | rfl
    · have lw := rw_len ok
      refine ⟨_, rfl, ⟨_, rfl⟩, _, _, rfl, rfl, (by decide +kernel), smallE (by omega), fun p np => ?_⟩
      rw [rw_part ok]
      have s1 := same_upd (o := .tup [.str (rwP r).1, .str (rwP r).2.1, .str (rwP r).2.2]) np
      refine ⟨p, _, rfl, .of upd_same, rfl, _, _, rfl, _, _, rfl, _, _, rfl, rfl, ?_⟩
      by_cases c : r.2 = 1
      · have e2 : (rwP r).2.1 = "" := by
          unfold rwP
          rw [if_pos c]
          exact empty_eq
        exact ⟨_, rfl, rfl, true, congrArg V.bl (decide_eq_true (by rw [e2])), iteT (q _ s1)⟩
      · have e2 : (rwP r).2.1 = "*" := by
          unfold rwP
          rw [if_neg c]
        have e3 : (rwP r).2.2 = nS r.2 := by
          unfold rwP
          rw [if_neg c]
        have n2 : 2 ≤ r.2 := by have := ok.2.1; omega
        refine ⟨_, rfl, rfl, false, congrArg V.bl (decide_eq_false (fun e => by rw [e2] at e; exact absurd (V.str.inj e) (by decide +kernel))), iteF ?_⟩
        obtain ⟨d, t, et, nd⟩ := num_head n2
        have ln := nS_len (n := r.2) (by omega) (by have := ok.2.2; omega)
        refine ⟨_, rfl, _, 0, d, congrArg V.str e3, rfl, smallE (by omega), ?_, rfl, true, ?_, iteT ?_⟩
        · show atI (TL.tl (nS r.2)) 0 = some d
          rw [et]
          exact atI_ofB (Int.le_refl _) rfl
        · refine congrArg V.bl ?_
          show (!decide (V.str ⟨#[d]⟩ = V.str "0")) = true
          rw [decide_eq_false (fun e => nd ?_)]
          · rfl
          · have := congrArg TL.tl (V.str.inj e)
            have e0 : TL.tl ("0" : Str) = [48] := by decide +kernel
            rw [e0] at this
            exact List.head_eq_of_cons_eq this
        · refine ⟨_, rfl, rfl, ?_⟩
          have : (!decide (V.str (rwP r).2.2 = V.str "1")) = true := by
            rw [e3, decide_eq_false (fun e => num_one n2 (V.str.inj e))]
            rfl
          show Q (.bl (!decide (V.str (rwP r).2.2 = V.str "1"))) _
          rw [this]
          exact q _ s1
    · have hp : Txt.partition ("-" : Str) "*" = (("-" : Str), Str.empty, Str.empty) := TL.partition_none (a := ("-" : Str)) tl_star (by decide +kernel)
      refine ⟨_, rfl, ⟨_, rfl⟩, _, _, rfl, rfl, (by decide +kernel), (by decide +kernel), fun p np => ?_⟩
      rw [hp]
      refine ⟨p, _, rfl, .of upd_same, rfl, _, _, rfl, _, _, rfl, _, _, rfl, rfl, ?_⟩
      exact ⟨_, rfl, rfl, true, congrArg V.bl (decide_eq_true (congrArg V.str empty_eq)), iteT (q _ (same_upd np))⟩
/-! run_in: slots 0:word 1:kind 2:star 3:digits -/
abbrev s_run_in : Stmt := topS 25
theorem sc_run_in : FnScope ["word", "kind", "star", "digits"] ["word"] (defScope s_run_in) := ⟨rfl, rfl, rfl, by decide +kernel, rfl, by decide +kernel, by decide +kernel⟩
def sp_run_in : Sp := fun vs H Q _ => ∃ r : Run, vs = [.str (rwS r)] ∧ RwOk r ∧ ∀ H' p, Same H H' → H p = none → H' p = some (.tup [.str r.1, .int r.2]) → Q (.ref p) H'
theorem ok_run_in (D : Df K mg "run_in" s_run_in) (G_number_in : Has P w K mg base 1 "number_in" ["digits"] sp_number_in) : Has P w K mg base 2 "run_in" ["word"] sp_run_in := by
  refine has_of D sc_run_in (fun _ _ _ _ _ _ us hl => match us, hl with | [_], _ => rfl) (fun vs H Q E h => ?_) (fun f cdv A outer s H vs Q E hr h => ?_)
  · obtain ⟨_, rfl, _⟩ := h
    rfl
  · obtain ⟨r, rfl, ok, q⟩ := h
    have lw := rw_len ok
    refine ⟨_, (pss_cons (ps_asg (pe_partition (pv 0) pe_str) (pg_tup rfl (pgs_cons (pg_name (i := 1) sc_run_in.nd rfl (by first | exact Or.inl rfl | exact Or.inr rfl)) (pgs_cons (pg_name (i := 2) sc_run_in.nd rfl (by first | exact Or.inl rfl | exact Or.inr rfl)) (pgs_cons (pg_name (i := 3) sc_run_in.nd rfl (by first | exact Or.inl rfl | exact Or.inr rfl)) pgs_nil)))))
    (pss_one (ps_ret (pe_tup (pa_cons (pv 1) (pa_cons (pe_ifExp (pt_cmpR op_eq (pv 2) pe_str (nomark _)) pe_int (pe_callH G_number_in (hr.mono (by omega)) (by rfl) (pa_cons (pv 3) pa_nil))) pa_nil)))))), ?_⟩
    refine ⟨_, rfl, ⟨_, rfl⟩, _, _, rfl, rfl, (by decide +kernel), smallE (by omega), fun p np => ?_⟩
    rw [rw_part ok]
    have s1 := same_upd (o := .tup [.str (rwP r).1, .str (rwP r).2.1, .str (rwP r).2.2]) np
    have e1 : (rwP r).1 = r.1 := by
      unfold rwP
      split <;> rfl
    refine ⟨p, _, rfl, .of upd_same, rfl, _, _, rfl, _, _, rfl, _, _, rfl, rfl, ?_⟩
    refine ⟨_, rfl, ?_⟩
    by_cases c : r.2 = 1
    · have e2 : (rwP r).2.1 = "" := by
        unfold rwP
        rw [if_pos c]
        exact empty_eq
      refine ⟨_, rfl, rfl, _, rfl, iteP (decide_eq_true (by rw [e2])) ⟨(by show 2 ≤ sizeLine; decide), fun t nt => ?_⟩⟩
      refine q _ t (s1.trans (same_upd nt)) (s1.free nt) ?_
      rw [upd_same, e1, c]
    · have e2 : (rwP r).2.1 = "*" := by
        unfold rwP
        rw [if_neg c]
      have e3 : (rwP r).2.2 = nS r.2 := by
        unfold rwP
        rw [if_neg c]
      refine ⟨_, rfl, rfl, _, rfl, iteN (decide_eq_false (fun e => by rw [e2] at e; exact absurd (V.str.inj e) (by decide +kernel))) ?_⟩
      refine ⟨_, rfl, r.2, congrArg (fun x => [V.str x]) e3, (by have := ok.2.1; omega), (by have := ok.2.2; omega), (by show 2 ≤ sizeLine; decide), fun t nt => ?_⟩
      refine q _ t (s1.trans (same_upd nt)) (s1.free nt) ?_
      rw [upd_same, e1]
end
end UP

set_option Elab.async false
set_option linter.all false
set_option maxRecDepth 100000
set_option maxHeartbeats 4000000
set_option pp.maxSteps 300
namespace UP
open PySem PySem.Spec PyProof.Rows L2
theorem rw_dash {r : Run} (h : RwOk r) : rwS r ≠ "-" := fun e => by
  have e2 := congrArg TL.tl e
  rw [show TL.tl ("-" : Str) = [45] by decide +kernel] at e2
  have hk := kind_ne h.1
  by_cases c : r.2 = 1
  · rw [tl_rw1 c] at e2
    have : 45 ∈ TL.tl r.1 := by
      rw [e2]
      exact List.mem_singleton.mpr rfl
    have := kind_tl h.1 this
    omega
  · rw [tl_rw c] at e2
    have e3 := congrArg List.length e2
    rw [List.length_append, List.length_append] at e3
    have e3 : (TL.tl r.1).length + 1 + (TL.tl (nS r.2)).length = 1 := e3
    have : 0 < (TL.tl r.1).length := List.length_pos_iff.mpr hk
    omega
section
variable {P : Program} {w : World} {K : PySem.W.Frag} {mg : Str → Option Value} {base : Heap}
/-! format_sequence: slots 0:sequence 1:run -/
abbrev s_format_sequence : Stmt := topS 28
theorem sc_format_sequence : FnScope ["sequence", "run"] ["sequence"] (defScope s_format_sequence) := ⟨rfl, rfl, rfl, by decide +kernel, rfl, by decide +kernel, by decide +kernel⟩
def sp_format_sequence : Sp := fun vs H Q _ => ∃ (v : V) (rs : List Run), vs = [v] ∧ RunsG H v rs ∧ SeqOk rs ∧ ∀ H', Same H H' → Q (.str (sqS rs)) H'
theorem ok_format_sequence (D : Df K mg "format_sequence" s_format_sequence) (G_checked_runs : Has P w K mg base 5 "checked_runs" ["sequence"] sp_checked_runs) (G_run_word : Has P w K mg base 1 "run_word" ["run"] sp_run_word) : Has P w K mg base 6 "format_sequence" ["sequence"] sp_format_sequence := by
  refine has_of D sc_format_sequence (fun _ _ _ _ _ _ us hl => match us, hl with | [_], _ => rfl) (fun vs H Q E h => ?_) (fun f cdv A outer s H vs Q E hr h => ?_)
  · obtain ⟨_, _, rfl, _⟩ := h
    rfl
  · obtain ⟨v, rs, rfl, hR, ok, q⟩ := h
    refine ⟨_, (pss_one (ps_ret (pe_join pe_str (pe_lc (own := [("run", 1)]) rfl sc_format_sequence.nd (pi_list (pe_callH G_checked_runs (hr.mono (by omega)) (by rfl) (pa_cons (pv 0) pa_nil))) (blkOk_by (N := ["sequence", "run"]) (sc := defScope s_format_sequence) (by decide +kernel)) (fun _ _ _ _ _ => (pg_name (i := 1) sc_format_sequence.nd rfl (by first | exact Or.inl rfl | exact Or.inr rfl))) (fun _ _ _ _ _ => pts_nil) (fun _ _ _ _ _ => (pe_callH G_run_word (hr.mono (by omega)) (by rfl) (pa_cons (pv 1) pa_nil))))))), ?_⟩
    refine ⟨⟨_, rfl⟩, _, rfl, v, rs, rfl, hR, ok, fun H1 p s1 np hR1 => ?_⟩
    obtain ⟨xs, hx, hp⟩ := hR1
    have lx : xs.length = rs.length := Paired.len hp
    have l4 := ok.1
    refine ⟨p, rfl, ⟨xs, .of hx⟩, fun L nL => lc_list (K := K) (a := p) (xs := xs) (fun i H' => Same H1 H' ∧ H' L = some (.lst (((rs.take i).map rwS).map V.str))) ⟨same_upd nL, upd_same⟩ (fun i H' _ hP => .of (hP.1 _ _ hx)) (fun i x H2 ex hP => ?_) (fun H2 hP => ?_)⟩
    · obtain ⟨sm, hL⟩ := hP
      obtain ⟨r, er, hr1⟩ := Paired.at hp ex
      have hi : i < xs.length := (List.getElem?_eq_some_iff.mp ex).1
      refine ⟨rfl, yesT ⟨_, rfl, x, r, rfl, (RunV.same sm hr1).dress, (ok.2.1 r (List.mem_of_getElem? er)).rw, _, hL, ?_, same_grow nL sm, ?_⟩⟩
      · rw [List.length_map, List.length_map, List.length_take]
        exact small (by omega)
      · rw [upd_same, take_snoc er, List.map_append, List.map_append]
        rfl
    · obtain ⟨sm, hL⟩ := hP
      rw [lx, List.take_length] at hL
      refine ⟨_, L, rs.map rwS, rfl, rfl, .inl (.of hL), ?_, q _ (s1.trans sm)⟩
      have h2 := sum_le (ws := rs.map rwS) (n := 49) (fun w hw => by
        obtain ⟨e, he, rfl⟩ := List.mem_map.mp hw
        exact rw_len (ok.2.1 e he).rw)
      rw [List.length_map] at h2 ⊢
      have : (" " : Str).length = 1 := by decide +kernel
      rw [this]
      omega
/-! format_state: slots 0:state -/
abbrev s_format_state : Stmt := topS 29
theorem sc_format_state : FnScope ["state"] ["state"] (defScope s_format_state) := ⟨rfl, rfl, rfl, by decide +kernel, rfl, by decide +kernel, by decide +kernel⟩
def sp_format_state : Sp := fun vs H Q _ => ∃ (v : V) (st : Option Run), vs = [v] ∧ StG H v st ∧ (∀ r, st = some r → RwOk r) ∧ ∀ H', Same H H' → Q (.str (stS st)) H'
theorem ok_format_state (D : Df K mg "format_state" s_format_state) (G_checked_state : Has P w K mg base 3 "checked_state" ["state"] sp_checked_state) (G_run_word : Has P w K mg base 1 "run_word" ["run"] sp_run_word) : Has P w K mg base 4 "format_state" ["state"] sp_format_state := by
  refine has_of D sc_format_state (fun _ _ _ _ _ _ us hl => match us, hl with | [_], _ => rfl) (fun vs H Q E h => ?_) (fun f cdv A outer s H vs Q E hr h => ?_)
  · obtain ⟨_, _, rfl, _⟩ := h
    rfl
  · obtain ⟨v, st, rfl, hv, ok, q⟩ := h
    refine ⟨_, (pss_cons (ps_set (i := 0) sc_format_state.nd rfl (by first | exact Or.inl rfl | exact Or.inr rfl) (pe_callH G_checked_state (hr.mono (by omega)) (by rfl) (pa_cons (pv 0) pa_nil)))
    (pss_one (ps_ret (pe_ifExp (pt_cmpR op_isN (pv 0) pe_non (nomark _)) pe_str (pe_callH G_run_word (hr.mono (by omega)) (by rfl) (pa_cons (pv 0) pa_nil)))))), ?_⟩
    refine ⟨_, rfl, v, st, rfl, hv, fun r er => ⟨(ok r er).1, (ok r er).2.1⟩, fun H1 v1 s1 hv1 => ?_⟩
    cases st with
    | none =>
      cases hv1
      exact ⟨_, rfl, rfl, _, rfl, iteP rfl (q _ s1)⟩
    | some r =>
      have hv2 := hv1
      obtain ⟨t, rfl, ht⟩ := hv1
      exact ⟨_, rfl, rfl, _, rfl, iteN rfl ⟨_, rfl, _, r, rfl, RunV.dress hv2, ok r rfl, q _ s1⟩⟩
/-! parse_sequence: slots 0:text 1:words 2:runs 3:word -/
abbrev s_parse_sequence : Stmt := topS 30
theorem sc_parse_sequence : FnScope ["text", "words", "runs", "word"] ["text"] (defScope s_parse_sequence) := ⟨rfl, rfl, rfl, by decide +kernel, rfl, by decide +kernel, by decide +kernel⟩
def sp_parse_sequence : Sp := fun vs H Q _ => ∃ (rs : List Run), vs = [.str (sqS rs)] ∧ SeqOk rs ∧ ∀ H' p, Same H H' → H p = none → Runs H' p rs → Q (.ref p) H'
theorem ok_parse_sequence (D : Df K mg "parse_sequence" s_parse_sequence) (T : Tx mg) (G_words_of : Has P w K mg base 1 "words_of" ["text"] sp_words_of) (G_check_forms : Has P w K mg base 1 "check_forms" ["forms"] sp_check_forms) (G_is_run_word : Has P w K mg base 2 "is_run_word" ["word"] sp_is_run_word)
    (G_run_in : Has P w K mg base 2 "run_in" ["word"] sp_run_in) (G_is_exact : Has P w K mg base 1 "is_exact" ["word"] sp_is_exact) (G_is_sequence : Has P w K mg base 4 "is_sequence" ["value"] sp_is_sequence) : Has P w K mg base 5 "parse_sequence" ["text"] sp_parse_sequence := by
  refine has_of D sc_parse_sequence (fun _ _ _ _ _ _ us hl => match us, hl with | [_], _ => rfl) (fun vs H Q E h => ?_) (fun f cdv A outer s H vs Q E hr h => ?_)
  · obtain ⟨e, rfl, _⟩ := h
    rfl
  · obtain ⟨es, rfl, ok0, q⟩ := h
    have ok : ∀ r ∈ es, RwOk r := fun r hr => (ok0.2.1 r hr).rw
    have l4 := ok0.1
    have lt := sq_len ok l4
    refine ⟨_, (pss_cons (ps_set (i := 1) sc_parse_sequence.nd rfl (by first | exact Or.inl rfl | exact Or.inr rfl) (pe_callH G_words_of (hr.mono (by omega)) (by rfl) (pa_cons (pv 0) pa_nil)))
    (pss_cons (ps_expr (pe_callH G_check_forms (hr.mono (by omega)) (by rfl) (pa_cons (pe_lc (own := [("word", 3)]) rfl sc_parse_sequence.nd (pi_list (pv 1)) (blkOk_by (N := ["text", "words", "runs", "word"]) (sc := defScope s_parse_sequence) (by decide +kernel)) (fun _ _ _ _ _ => (pg_name (i := 3) sc_parse_sequence.nd rfl (by first | exact Or.inl rfl | exact Or.inr rfl))) (fun _ _ _ _ _ => pts_nil) (fun _ _ _ _ _ => (pe_callH G_is_run_word (hr.mono (by omega)) (by rfl) (pa_cons (pv 3) pa_nil)))) pa_nil)))
    (pss_cons (ps_setLc (i := 2) (own := [("word", 3)]) rfl sc_parse_sequence.nd rfl rfl (sw_true rfl rfl rfl (by decide +kernel)) (pi_list (pv 1)) (blkOk_by (N := ["text", "words", "runs", "word"]) (sc := defScope s_parse_sequence) (by decide +kernel)) (fun _ _ _ _ _ => (pg_name (i := 3) sc_parse_sequence.nd rfl (by first | exact Or.inl rfl | exact Or.inr rfl))) (fun _ _ _ _ _ => pts_nil) (fun _ _ _ _ _ => (pe_callH G_run_in (hr.mono (by omega)) (by rfl) (pa_cons (pv 3) pa_nil))))
    (pss_cons (ps_if (PW.pt (pw_or (pt_not (pt_val (pe_callB (cr_all rfl) (by rfl) T.n_all (by decide +kernel) (pa_cons (pe_lc (own := [("word", 3)]) rfl sc_parse_sequence.nd (pi_list (pv 1)) (blkOk_by (N := ["text", "words", "runs", "word"]) (sc := defScope s_parse_sequence) (by decide +kernel)) (fun _ _ _ _ _ => (pg_name (i := 3) sc_parse_sequence.nd rfl (by first | exact Or.inl rfl | exact Or.inr rfl))) (fun _ _ _ _ _ => pts_nil) (fun _ _ _ _ _ => (pe_callH G_is_exact (hr.mono (by omega)) (by rfl) (pa_cons (pv 3) pa_nil)))) pa_nil)))) (pw_or1 (pt_not (pt_val (pe_callH G_is_sequence (hr.mono (by omega)) (by rfl) (pa_cons (pv 2) pa_nil))))))) (pss_one ps_never) pss_nil)
    (pss_one (ps_ret (pv 2))))))), ?_⟩
    refine ⟨_, rfl, es.map rwS, rfl, sq_words ok, by show (sqS es).length ≤ _; omega, fun H1 wa s1 nw hw => ?_⟩
    refine ⟨_, rfl, wa, rfl, ⟨_, .of hw⟩, fun L nL => lc_list (K := K) (a := wa) (xs := (es.map rwS).map V.str) (fun i H' => Same H1 H' ∧ H' L = some (.lst ((List.replicate i true).map V.bl))) ⟨same_upd nL, upd_same⟩ (fun i H' _ hP => .of (hP.1 _ _ hw)) (fun i x H3 ex hP => ?_) (fun H3 hP => ?_)⟩
    · obtain ⟨sm, hL⟩ := hP
      rw [List.getElem?_map, List.getElem?_map] at ex
      cases ee : es[i]? with
      | none =>
        rw [ee] at ex
        cases ex
      | some e =>
        rw [ee] at ex
        cases ex
        have hi : i < es.length := (List.getElem?_eq_some_iff.mp ee).1
        refine ⟨rfl, yesT ⟨_, rfl, e, rfl, ok e (List.mem_of_getElem? ee), fun H4 s4 => ⟨_, s4 _ _ hL, ?_, same_grow nL (sm.trans s4), ?_⟩⟩⟩
        · simp only [List.length_map, List.length_replicate]
          exact small (by omega)
        · rw [upd_same, List.replicate_succ', List.map_append]
          rfl
    obtain ⟨s3, hL⟩ := hP
    refine ⟨L, _, rfl, hL, ?_⟩
    have hw3 := s3 _ _ hw
    refine ⟨_, rfl, wa, rfl, ⟨_, .of hw3⟩, fun M nM => lc_list (K := K) (a := wa) (xs := (es.map rwS).map V.str) (fun i H' => Same H3 H' ∧ ∃ ys, H' M = some (.lst ys) ∧ Paired (RunV H') ys (es.take i)) ⟨same_upd nM, [], upd_same, .nil⟩ (fun i H' _ hP => .of (hP.1 _ _ hw3)) (fun i x H4 ex hP => ?_) (fun H4 hP => ?_)⟩
    · obtain ⟨sm, ys, hM, hy⟩ := hP
      rw [List.getElem?_map, List.getElem?_map] at ex
      cases ee : es[i]? with
      | none =>
        rw [ee] at ex
        cases ex
      | some e =>
        rw [ee] at ex
        cases ex
        have hi : i < es.length := (List.getElem?_eq_some_iff.mp ee).1
        refine ⟨rfl, yesT ⟨_, rfl, e, rfl, ok e (List.mem_of_getElem? ee), fun H5 t s5 nt ht => ⟨_, s5 _ _ hM, ?_, same_grow nM (sm.trans s5), _, upd_same, ?_⟩⟩⟩
        · have := Paired.len hy
          rw [List.length_take] at this
          exact small (by omega)
        · rw [take_snoc ee]
          exact Paired.app (prs_grow (s5 _ _ hM) (prs_same s5 hy)) (.cons (RunV.grow (s5 _ _ hM) ⟨t, rfl, ht⟩) .nil)
    obtain ⟨s4, ys, hM, hy⟩ := hP
    rw [List.length_map, List.length_map, List.take_length] at hy
    have hw4 := s4 _ _ hw3
    have hR : Runs H4 M es := ⟨ys, hM, hy⟩
    refine ⟨_, rfl, wa, rfl, ⟨_, .of hw4⟩, fun N nN => lc_list (K := K) (a := wa) (xs := (es.map rwS).map V.str) (fun i H' => Same H4 H' ∧ H' N = some (.lst ((List.replicate i true).map V.bl))) ⟨same_upd nN, upd_same⟩ (fun i H' _ hP => .of (hP.1 _ _ hw4)) (fun i x H5 ex hP => ?_) (fun H5 hP => ?_)⟩
    · obtain ⟨sm, hL⟩ := hP
      rw [List.getElem?_map, List.getElem?_map] at ex
      cases ee : es[i]? with
      | none =>
        rw [ee] at ex
        cases ex
      | some e =>
        rw [ee] at ex
        cases ex
        have hi : i < es.length := (List.getElem?_eq_some_iff.mp ee).1
        refine ⟨rfl, yesT ⟨_, rfl, .inl ⟨e, rfl, ok e (List.mem_of_getElem? ee)⟩, fun H6 s6 => ⟨_, s6 _ _ hL, ?_, same_grow nN (sm.trans s6), ?_⟩⟩⟩
        · simp only [List.length_map, List.length_replicate]
          exact small (by omega)
        · rw [upd_same, List.replicate_succ', List.map_append]
          rfl
    obtain ⟨s5, hN⟩ := hP
    refine ⟨N, _, rfl, .of hN, _, rfl, iteN ?_ ?_⟩
    · rw [all_rep]
      rfl
    have hR5 := hR.same s5
    refine ⟨_, rfl, .ref M, es, rfl, hR5.dress, ok0, fun H6 s6 => ⟨true, rfl, iteF ⟨_, rfl, q _ M ((s1.trans s3).trans ((s4.trans s5).trans s6)) ((s1.trans s3).free nM) (hR5.same s6)⟩⟩⟩
/-! parse_state: slots 0:text 1:words 2:word -/
abbrev s_parse_state : Stmt := topS 31
theorem sc_parse_state : FnScope ["text", "words", "word"] ["text"] (defScope s_parse_state) := ⟨rfl, rfl, rfl, by decide +kernel, rfl, by decide +kernel, by decide +kernel⟩
def sp_parse_state : Sp := fun vs H Q _ => ∃ (st : Option Run), vs = [.str (stS st)] ∧ (∀ r, st = some r → RwOk r) ∧ ∀ H' v, Same H H' → StV H' v st → Q v H'
theorem ok_parse_state (D : Df K mg "parse_state" s_parse_state) (T : Tx mg) (G_words_of : Has P w K mg base 1 "words_of" ["text"] sp_words_of) (G_check_forms : Has P w K mg base 1 "check_forms" ["forms"] sp_check_forms) (G_is_run_word : Has P w K mg base 2 "is_run_word" ["word"] sp_is_run_word)
    (G_run_in : Has P w K mg base 2 "run_in" ["word"] sp_run_in) (G_is_exact : Has P w K mg base 1 "is_exact" ["word"] sp_is_exact) : Has P w K mg base 5 "parse_state" ["text"] sp_parse_state := by
  refine has_of D sc_parse_state (fun _ _ _ _ _ _ us hl => match us, hl with | [_], _ => rfl) (fun vs H Q E h => ?_) (fun f cdv A outer s H vs Q E hr h => ?_)
  · obtain ⟨e, rfl, _⟩ := h
    rfl
  · obtain ⟨st, rfl, ok, q⟩ := h
    refine ⟨_, (pss_cons (ps_set (i := 1) sc_parse_state.nd rfl (by first | exact Or.inl rfl | exact Or.inr rfl) (pe_callH G_words_of (hr.mono (by omega)) (by rfl) (pa_cons (pv 0) pa_nil)))
    (pss_cons (ps_expr (pe_callH G_check_forms (hr.mono (by omega)) (by rfl) (pa_cons (pe_lc (own := [("word", 2)]) rfl sc_parse_state.nd (pi_list (pv 1)) (blkOk_by (N := ["text", "words", "word"]) (sc := defScope s_parse_state) (by decide +kernel)) (fun _ _ _ _ _ => (pg_name (i := 2) sc_parse_state.nd rfl (by first | exact Or.inl rfl | exact Or.inr rfl))) (fun _ _ _ _ _ => pts_nil) (fun _ _ _ _ _ => (pe_or (pe_cmpR op_eq (pv 2) pe_str (nomark _)) (pe_one (pe_callH G_is_run_word (hr.mono (by omega)) (by rfl) (pa_cons (pv 2) pa_nil)))))) pa_nil)))
    (pss_cons (ps_if (PW.pt (pw_or (pt_cmpR op_ne (pe_callB call_len_seq (by rfl) T.n_len (by decide +kernel) (pa_cons (pv 1) pa_nil)) pe_int (nomark _)) (pw_or1 (pt_not (pt_val (pe_callH G_is_exact (hr.mono (by omega)) (by rfl) (pa_cons (pe_ix ix_list (pv 1) pe_int (fun _ _ => rfl)) pa_nil))))))) (pss_one ps_never) pss_nil)
    (pss_one (ps_ret (pe_ifExp (pt_cmpR op_eq (pv 0) pe_str (nomark _)) pe_non (pe_callH G_run_in (hr.mono (by omega)) (by rfl) (pa_cons (pv 0) pa_nil)))))))), ?_⟩
    have hfree : 32 ∉ TL.tl (stS st) ∧ TL.tl (stS st) ≠ [] ∧ (stS st).length ≤ 49 := by
      cases st with
      | none =>
        show 32 ∉ TL.tl ("-" : Str) ∧ TL.tl ("-" : Str) ≠ [] ∧ ("-" : Str).length ≤ 49
        decide +kernel
      | some r => exact ⟨rw_free (ok r rfl) (by decide), rw_ne (ok r rfl), rw_len (ok r rfl)⟩
    obtain ⟨f1, f2, f3⟩ := hfree
    refine ⟨_, rfl, [stS st], by rw [join_one]; rfl, (fun x hx => by rw [List.mem_singleton.mp hx]; exact ⟨f1, f2⟩), by rw [join_one]; omega, fun H1 wa s1 nw hw => ?_⟩
    refine ⟨_, rfl, wa, rfl, ⟨_, .of hw⟩, fun L nL => lc_list (K := K) (a := wa) (xs := [V.str (stS st)]) (fun i H' => Same H1 H' ∧ H' L = some (.lst ((List.replicate i true).map V.bl))) ⟨same_upd nL, upd_same⟩ (fun i H' _ hP => .of (hP.1 _ _ hw)) (fun i x H3 ex hP => ?_) (fun H3 hP => ?_)⟩
    · obtain ⟨sm, hL⟩ := hP
      have hi : i < 1 := (List.getElem?_eq_some_iff.mp ex).1
      obtain rfl : i = 0 := by omega
      cases ex
      have fin : ∀ H4, Same H3 H4 → ∃ acc, H4 L = some (.lst acc) ∧ acc.length < sizeLine ∧ Same H1 (upd H4 L (.lst (acc ++ [V.bl true]))) ∧ (upd H4 L (.lst (acc ++ [V.bl true]))) L = some (.lst ((List.replicate (0 + 1) true).map V.bl)) := fun H4 s4 => ⟨_, s4 _ _ hL, (by show 0 < sizeLine; decide), same_grow nL (sm.trans s4), by rw [upd_same]; rfl⟩
      refine ⟨rfl, yesT ?_⟩
      cases st with
      | none => exact ⟨_, rfl, rfl, true, congrArg V.bl (decide_eq_true rfl), iteT (fin _ (Same.refl _))⟩
      | some r => exact ⟨_, rfl, rfl, false, congrArg V.bl (decide_eq_false (fun e => rw_dash (ok r rfl) (V.str.inj e))), iteF ⟨_, rfl, r, rfl, ok r rfl, fun H4 s4 => fin _ s4⟩⟩
    obtain ⟨s3, hL⟩ := hP
    refine ⟨L, 1, rfl, hL, ?_⟩
    have hw3 := s3 _ _ hw
    refine ⟨_, rfl, wa, _, rfl, .inl (.of hw3), rfl, _, rfl, iteN (by show (!decide (V.int ((1 : Nat) : Int) = V.int 1)) = false; rw [decide_eq_true (show V.int ((1 : Nat) : Int) = V.int 1 from rfl)]; rfl) ?_⟩
    refine ⟨_, rfl, wa, _, 0, _, rfl, rfl, .of hw3, atI_ofB (Int.le_refl _) rfl, ?_, fun H4 s4 => ⟨true, rfl, iteF ?_⟩⟩
    · cases st with
      | none => exact .inr rfl
      | some r => exact .inl ⟨r, rfl, ok r rfl⟩
    have s14 := (s1.trans s3).trans s4
    cases st with
    | none => exact ⟨_, rfl, rfl, _, rfl, iteP (decide_eq_true rfl) (q _ _ s14 rfl)⟩
    | some r => exact ⟨_, rfl, rfl, _, rfl, iteN (decide_eq_false (fun e => rw_dash (ok r rfl) (V.str.inj e))) ⟨_, rfl, r, rfl, ok r rfl, fun H5 p s5 np hp => q _ _ (s14.trans s5) ⟨p, rfl, hp⟩⟩⟩
/-! _law_text: slots 0:runs 1:kind 2:count -/
abbrev s_law_text : Stmt := topS 39
theorem sc_law_text : FnScope ["runs", "kind", "count"] ["runs"] (defScope s_law_text) := ⟨rfl, rfl, rfl, by decide +kernel, rfl, by decide +kernel, by decide +kernel⟩
def sp_law_text : Sp := fun vs H Q _ => ∃ (a : Addr) (rs : List Run), vs = [.ref a] ∧ Runs H a rs ∧ (∀ r ∈ rs, RwOk r) ∧ rs.length ≤ 400 ∧ ∀ H', Same H H' → Q (.str (sqS rs)) H'
theorem ok_law_text (D : Df K mg "_law_text" s_law_text) (T : Tx mg) : Has P w K mg base 1 "_law_text" ["runs"] sp_law_text := by
  refine has_of D sc_law_text (fun _ _ _ _ _ _ us hl => match us, hl with | [_], _ => rfl) (fun vs H Q E h => ?_) (fun f cdv A outer s H vs Q E hr h => ?_)
  · obtain ⟨_, _, rfl, _⟩ := h
    rfl
  · obtain ⟨a, rs, rfl, ⟨xs, hx, hp⟩, ok, l4, q⟩ := h
    have lx : xs.length = rs.length := Paired.len hp
    refine ⟨_, (pss_one (ps_ret (pe_join pe_str (pe_lc (own := [("kind", 1), ("count", 2)]) rfl sc_law_text.nd (pi_list (pv 0)) (blkOk_by (N := ["runs", "kind", "count"]) (sc := defScope s_law_text) (by decide +kernel)) (fun _ _ _ _ _ => (pg_tupK (K := K) (n := 2) rfl rfl (pgs_cons (pg_name (i := 1) sc_law_text.nd rfl (by first | exact Or.inl rfl | exact Or.inr rfl)) (pgs_cons (pg_name (i := 2) sc_law_text.nd rfl (by first | exact Or.inl rfl | exact Or.inr rfl)) pgs_nil)))) (fun _ _ _ _ _ => pts_nil) (fun _ _ _ _ _ => (pe_ifExp (pt_cmpR op_eq (pv 2) pe_int (nomark _)) (pv 1) (pe_op op_add_str (pe_op op_add_str (pv 1) pe_str) (pe_callTy call_str_int (by rfl) T.n_str (by decide +kernel) (pa_cons (pv 2) pa_nil))))))))), ?_⟩
    refine ⟨⟨_, rfl⟩, _, rfl, a, rfl, ⟨xs, .of hx⟩, fun L nL => lc_list (K := K) (a := a) (xs := xs) (fun i H' => Same H H' ∧ H' L = some (.lst (((rs.take i).map rwS).map V.str))) ⟨same_upd nL, upd_same⟩ (fun i H' _ hP => .of (hP.1 _ _ hx)) (fun i x H2 ex hP => ?_) (fun H2 hP => ?_)⟩
    · obtain ⟨sm, hL⟩ := hP
      obtain ⟨r, er, hr1⟩ := Paired.at hp ex
      have hi : i < xs.length := (List.getElem?_eq_some_iff.mp ex).1
      obtain ⟨t, rfl, ht⟩ := RunV.same sm hr1
      have okr := ok r (List.mem_of_getElem? er)
      have l1 := okr.1.2.1
      have l2 := nS_len (n := r.2) (by have := okr.2.1; omega) (by have := okr.2.2; omega)
      have fin : ∀ z, z = rwS r → (((rs.take i).map rwS).map V.str).length < sizeLine ∧ Same H (upd H2 L (.lst (((rs.take i).map rwS).map V.str ++ [.str z]))) ∧ (upd H2 L (.lst (((rs.take i).map rwS).map V.str ++ [.str z]))) L = some (.lst (((rs.take (i + 1)).map rwS).map V.str)) := fun z ez => by
        rw [ez]
        refine ⟨?_, same_grow nL sm, ?_⟩
        · rw [List.length_map, List.length_map, List.length_take]
          exact small (by omega)
        · rw [upd_same, take_snoc er, List.map_append, List.map_append]
          rfl
      refine ⟨t, _, rfl, .of ht, rfl, _, _, rfl, _, _, rfl, rfl, rfl, yesT ?_⟩
      by_cases c : r.2 = 1
      · exact ⟨_, rfl, rfl, _, rfl, iteP (decide_eq_true (congrArg V.int c)) ⟨_, rfl, _, hL, fin _ (tl_rw1 c).symm⟩⟩
      · refine ⟨_, rfl, rfl, _, rfl, iteN (nI c) ⟨_, rfl, _, _, rfl, rfl, smallE (by rw [star_len]; omega), _, rfl, r.2, rfl, log_bd40 (by have := okr.2.1; omega) (by have := okr.2.2; omega), _, _, rfl, rfl, ?_, _, hL, fin _ (if_neg c).symm⟩⟩
        rw [str_app_len, star_len]
        have : (Str.ofString (toString r.2)).length ≤ 40 := l2
        exact smallE (by omega)
    · obtain ⟨sm, hL⟩ := hP
      rw [lx, List.take_length] at hL
      refine ⟨_, L, rs.map rwS, rfl, rfl, .inl (.of hL), ?_, q _ sm⟩
      have h2 := sum_le (ws := rs.map rwS) (n := 49) (fun w hw => by
        obtain ⟨e, he, rfl⟩ := List.mem_map.mp hw
        exact rw_len (ok e he))
      rw [List.length_map] at h2 ⊢
      have : (" " : Str).length = 1 := by decide +kernel
      rw [this]
      omega
end
end UP

set_option Elab.async false
set_option linter.all false
set_option maxRecDepth 100000
set_option maxHeartbeats 4000000
set_option pp.maxSteps 300
namespace UP
open PySem PySem.Spec PyProof.Rows L2
def octoS : List Str := ["a", "b", "abcdefgh", "zz", "none", "ok", "x", "empty"]
theorem octoS_ok : ∀ k ∈ octoS, KindOk k := by
  intro k hk
  simp only [octoS, List.mem_cons, List.not_mem_nil, or_false] at hk
  rcases hk with e | e | e | e | e | e | e | e <;> (subst e; decide +kernel)
theorem p30 : (10 : Int) ^ ((30 : Int).toNat) = 1000000000000000000000000000000 := by decide +kernel
theorem run_list {r : Run} {cl : Addr} {a b c d : Int} : HO.lst [.str r.1, .int r.2] ≠ .lst [.ref cl, .int a, .int b, .int c, .int d] := by
  intro q
  cases q
theorem RunG.bag {H H' : Hp} {pb cl : Addr} {n : Nat} {v : V} {e : Run} (z : Bag H pb cl n) (b : But pb H H') (h : RunG H v e) : RunG H' v e := by
  obtain ⟨t, rfl, ht⟩ := h
  obtain ⟨q, h1, _⟩ := id z
  refine ⟨t, rfl, ht.bag z b ?_⟩
  rcases ht with e | e
  · exact ne_of e h1 run_list
  · exact ne_of e h1 (by intro y; cases y)
theorem RunV.bag {H H' : Hp} {pb cl : Addr} {n : Nat} {v : V} {e : Run} (z : Bag H pb cl n) (b : But pb H H') (h : RunV H v e) : RunV H' v e := by
  obtain ⟨q, h1, _⟩ := id z
  obtain ⟨t, rfl, ht⟩ := h
  exact ⟨t, rfl, b _ _ (ne_of ht h1 (by intro y; cases y)) ht⟩
section
variable {P : Program} {w : World} {K : PySem.W.Frag} {mg : Str → Option Value} {base : Heap}
/-! _law_runs: slots 0:bag 1:size 2:names 3:most 4:found 5:step 6:kind -/
abbrev s_law_runs : Stmt := topS 38
theorem sc_law_runs : FnScope ["bag", "size", "names", "most", "found", "step", "kind"] ["bag", "size"] (defScope s_law_runs) := ⟨rfl, rfl, rfl, by decide +kernel, rfl, by decide +kernel, by decide +kernel⟩
def sp_law_runs : Sp := fun vs H Q _ => ∃ (pb cl : Addr) (n m : Nat), vs = [.ref pb, .int m] ∧ Bag H pb cl n ∧ n ≤ 100000000 ∧ m ≤ 400 ∧ ∀ H' L rs, But pb H H' → Bag H' pb cl (n + 1 + 2 * m) → H L = none → L ≠ pb → Runs H' L rs → SeqOk rs → rs.length ≤ m → Q (.ref L) H'
theorem ok_law_runs (D : Df K mg "_law_runs" s_law_runs) (T : Tx mg) (G_law_draw : Has P w K mg base 2 "_law_draw" ["bag", "bound"] sp_law_draw) : Has P w K mg base 3 "_law_runs" ["bag", "size"] sp_law_runs := by
  refine has_of D sc_law_runs (fun _ _ _ _ _ _ us hl => match us, hl with | [_, _], _ => rfl) (fun vs H Q E h => ?_) (fun f cdv A outer s₀ H vs Q E hr h => ?_)
  · obtain ⟨_, _, _, _, rfl, _⟩ := h
    rfl
  · obtain ⟨p, cl, n, m, rfl, z, ln, m4, q⟩ := h
    refine ⟨_, (pss_cons (ps_set (i := 2) sc_law_runs.nd rfl (by first | exact Or.inl rfl | exact Or.inr rfl) (pe_lst (pa_cons pe_str (pa_cons pe_str (pa_cons pe_str (pa_cons pe_str (pa_cons pe_str (pa_cons pe_str (pa_cons pe_str (pa_cons pe_str pa_nil))))))))))
    (C8.pss_cut (ps_set (i := 3) sc_law_runs.nd rfl (by first | exact Or.inl rfl | exact Or.inr rfl) (pe_ix ix_list (pe_lst (pa_cons pe_int (pa_cons pe_int (pa_cons (pe_ifExp (pt_cmpR op_lt (pv 1) pe_int (nomark _)) (pe_op op_pow pe_int pe_int) pe_int) pa_nil)))) (pe_callH G_law_draw (hr.mono (by omega)) (by rfl) (pa_cons (pv 0) (pa_cons pe_int pa_nil))) (fun _ _ => rfl)))
    (pss_cons (ps_set (i := 4) sc_law_runs.nd rfl (by first | exact Or.inl rfl | exact Or.inr rfl) (pe_lst pa_nil))
    (pss_cons (ps_for PassesOwn.never rfl (pi_range1 (by rfl) T.n_range (pa_cons (pv 1) pa_nil)) (pg_name (i := 5) sc_law_runs.nd rfl (by first | exact Or.inl rfl | exact Or.inr rfl))
      (pss_cons (ps_set (i := 6) sc_law_runs.nd rfl (by first | exact Or.inl rfl | exact Or.inr rfl) (pe_ix ix_list (pv 2) (pe_callH G_law_draw (hr.mono (by omega)) (by rfl) (pa_cons (pv 0) (pa_cons pe_int pa_nil))) (fun _ _ => rfl)))
    (pss_one (ps_if (PW.pt (pw_or (pt_cmpR (op_eqD hr.units) (pv 4) (pe_lst pa_nil) (nomark _)) (pw_or1 (pt_cmpR op_ne (pe_ix ix_tup (pe_ix ix_list (pv 4) (pe_un un_neg pe_int) (fun _ _ => rfl)) pe_int (fun _ _ => rfl)) (pv 6) (nomark _))))) (pss_one (ps_expr (pe_bm PySem.F.plainAttrs_list PySem.F.slot_list_append PySem.F.type_list_append mt_append (pv 4) (pa_cons (pe_tup (pa_cons (pv 6) (pa_cons (pe_op op_add pe_int (pe_callH G_law_draw (hr.mono (by omega)) (by rfl) (pa_cons (pv 0) (pa_cons (pv 3) pa_nil)))) pa_nil))) pa_nil)))) pss_nil))))
    (pss_one (ps_ret (pv 4))))))), ?_⟩
    refine ⟨(by show 8 ≤ sizeLine; decide), fun l nl => ?_⟩
    have sl := same_upd (o := .lst (octoS.map V.str)) nl
    have hl := upd_same (H := H) (a := l) (o := .lst (octoS.map V.str))
    show C8.tCut _ _ _ _ (upd H l (.lst (octoS.map V.str)))
    have lp := z.ne nl
    generalize upd H l (.lst (octoS.map V.str)) = H1 at *
    have z1 := z.same sl
    -- the greatest count
    refine ⟨fun σ' H' => ∃ g y4 y5 y6, σ' = [some (.ref p), some (.int m), some (.ref l), some (.int g), y4, y5, y6] ∧ But p H1 H' ∧ Bag H' p cl (n + 1) ∧ 1 ≤ g ∧ g ≤ 1000000000000000000000000000000, ?_, fun σ' H2 hM => ?_⟩
    · have fin : ∀ g, 1 ≤ g → g ≤ 1000000000000000000000000000000 → ∀ e, H1 e = none → ∀ H2 r, But p (upd H1 e (.lst [.int 2, .int 12, .int g])) H2 → Bag H2 p cl (n + 1) → 0 ≤ r → r < 3 → ∃ h, (atI [V.int 2, V.int 12, V.int g] r = some (.int h) ∧ H2 e = some (.lst [.int 2, .int 12, .int g])) ∧ But p H1 H2 ∧ 1 ≤ h ∧ h ≤ 1000000000000000000000000000000 := fun g g1 g2 e ne H2 r b2 z2 r0 r1 => by
        have he := b2 _ _ (z1.ne ne) (upd_same (H := H1) (a := e) (o := .lst [.int 2, .int 12, .int g]))
        have B : But p H1 H2 := (Same.but (same_upd ne)).trans b2
        rcases (show r = 0 ∨ r = 1 ∨ r = 2 by omega) with er | er | er
        · rw [er]
          exact ⟨2, ⟨rfl, he⟩, B, by decide, by decide⟩
        · rw [er]
          exact ⟨12, ⟨rfl, he⟩, B, by decide, by decide⟩
        · rw [er]
          exact ⟨g, ⟨rfl, he⟩, B, g1, g2⟩
      refine ⟨_, rfl, _, _, rfl, rfl, _, rfl, ite2 (fun c => ?_) (fun c => ?_)⟩
      · refine ⟨_, _, rfl, rfl, ⟨by decide, by decide, by decide⟩, (by show 3 ≤ sizeLine; decide), fun e ne => ⟨_, rfl, p, cl, n, 3, rfl, z1.same (same_upd ne), by omega, by decide, by decide, fun H2 r b2 z2 r0 r1 => ?_⟩⟩
        obtain ⟨h, ⟨h1, h2⟩, h3, h4, h5⟩ := fin _ (by rw [p30]; decide) (by rw [p30]; decide) e ne H2 r b2 z2 r0 r1
        exact ⟨e, _, r, _, rfl, rfl, .of h2, h1, h, _, _, _, rfl, h3, z2, h4, h5⟩
      · refine ⟨(by show 3 ≤ sizeLine; decide), fun e ne => ⟨_, rfl, p, cl, n, 3, rfl, z1.same (same_upd ne), by omega, by decide, by decide, fun H2 r b2 z2 r0 r1 => ?_⟩⟩
        obtain ⟨h, ⟨h1, h2⟩, h3, h4, h5⟩ := fin 90 (by decide) (by decide) e ne H2 r b2 z2 r0 r1
        exact ⟨e, _, r, _, rfl, rfl, .of h2, h1, h, _, _, _, rfl, h3, z2, h4, h5⟩
    obtain ⟨g, y4, y5, y6, rfl, b2, z2, g1, g2⟩ := hM
    have hl2 := b2 _ _ lp hl
    have B2 : But p H H2 := (Same.but sl).trans b2
    have fr : ∀ {x : Addr}, H2 x = none → H x = none := fun {x} e => by
      cases y : H x with
      | none => rfl
      | some o =>
        rw [B2 _ _ (z2.ne e) y] at e
        cases e
    refine ⟨Nat.zero_le _, fun L nL => ?_⟩
    have nLp := z2.ne nL
    have sL := same_upd (o := .lst []) nL
    obtain ⟨qb, hb1, hb2, _⟩ := id z2
    have cL : cl ≠ L := ne_of_none hb2 nL
    have lL : l ≠ L := ne_of_none hl2 nL
    refine ⟨_, rfl, m, rfl, by omega, by omega, for_range (lo := 0) (n := (m : Int).toNat) (fun i σ H' => ∃ y5 y6 rs, σ = [some (.ref p), some (.int m), some (.ref l), some (.int g), some (.ref L), y5, y6] ∧ But p H H' ∧ Bag H' p cl (n + 1 + 2 * i) ∧ H' l = some (.lst (octoS.map V.str)) ∧ Runs H' L rs ∧ rs.length ≤ i ∧ (∀ r ∈ rs, RunOk r) ∧ Alt rs)
      ⟨y5, y6, [], rfl, B2.trans (Same.but sL), z2.same sL, sL _ _ hl2, ⟨[], upd_same, .nil⟩, Nat.le_refl _, (fun r h => by cases h), (fun i x y h => by simp at h)⟩ (fun i σ H6 hi hP => ?_) (fun σ H6 hP => ?_)⟩
    · obtain ⟨y5, y6, rs, rfl, b6, z6, hl6, hR, lr, okr, alt⟩ := hP
      have hi : i < (m : Int).toNat := hi
      refine ⟨_, rfl, _, rfl, p, cl, _, 8, rfl, z6, by omega, by decide, by decide, fun H7 r7 b7 z7 r70 r71 => ?_⟩
      have l8 : r7.toNat < octoS.length := by
        show r7.toNat < 8
        omega
      have hl7 := b7 _ _ lp hl6
      have ek : atI (octoS.map V.str) r7 = some (.str octoS[r7.toNat]) := atI_ofB r70 (by rw [List.getElem?_map, List.getElem?_eq_getElem l8]; rfl)
      have kk : KindOk octoS[r7.toNat] := octoS_ok _ (List.getElem_mem l8)
      generalize octoS[r7.toNat] = kd at ek kk
      refine ⟨l, _, r7, _, rfl, rfl, .of hl7, ek, ?_⟩
      obtain ⟨xs, hx6, hp6⟩ := hR
      have hx : H7 L = some (.lst xs) := b7 _ _ nLp hx6
      have hpr : Paired (RunV H7) xs rs := Paired.imp (fun _ _ y => RunV.bag z6 b7 y) hp6
      have B8 : But p H H7 := b6.trans b7
      have okR : ∀ r ∈ rs, KindOk r.1 := fun r h => (okr r h).1
      clear b7 b6 z6 hx6 hp6 hl6
      have lx : xs.length = rs.length := Paired.len hpr
      dsimp only
      refine if_by (fun b H9 => Same H7 H9 ∧ (b = true → ∀ y, rs[rs.length - 1]? = some y → y.1 ≠ kd)) (fun Q' k => ?_) (fun H9 hq => ?_) (fun H9 hq => ?_)
      · refine ⟨_, rfl, Nat.zero_le _, fun e ne => ?_⟩
        have se : Same H7 (upd H7 e (.lst [])) := same_upd ne
        refine ⟨.list (rs.map dRun), .list [], .lst (.of (se _ _ hx)) (dp_all (prs_same se hpr)), .lst (.of upd_same) .nil, shaped_runs okR, shaped_nil, _, rfl, ?_⟩
        rw [eqv_nil]
        cases hrs : rs with
        | nil => exact iteP rfl (k _ _ ⟨se, fun _ y hy => by rw [hrs] at hy; cases hy⟩)
        | cons r0 t0 =>
          refine iteN rfl ?_
          have hlt : rs.length - 1 < rs.length := by
            have : 0 < rs.length := by rw [hrs]; exact Nat.succ_pos _
            omega
          obtain ⟨x, ex, hxv⟩ := Paired.at' hpr (List.getElem?_eq_getElem hlt)
          obtain ⟨tt, rfl, htt⟩ := RunV.same se hxv
          have exl : atI xs (-1) = some (.ref tt) := by
            have h1 : xs ≠ [] := fun z => by rw [z] at lx; rw [hrs] at lx; cases lx
            have h2 : xs = xs.dropLast ++ [xs.getLast h1] := (List.dropLast_concat_getLast h1).symm
            have h3 : xs.getLast h1 = .ref tt := by
              have := List.getLast?_eq_getElem? (l := xs)
              rw [lx, ex, List.getLast?_eq_some_getLast h1] at this
              exact Option.some.inj this
            rw [h2, h3]
            exact atI_last _ _
          refine ⟨_, rfl, 1, rfl, L, xs, -1, _, rfl, rfl, .of (se _ _ hx), exl, tt, _, 0, _, rfl, rfl, .of htt, at0, _, rfl, rfl, _, rfl, ?_⟩
          refine k _ _ ⟨se, fun hb y hy => ?_⟩
          rw [List.getElem?_eq_getElem hlt] at hy
          cases hy
          intro z
          rw [z] at hb
          simp at hb
      · obtain ⟨s9, ha⟩ := hq
        refine ⟨_, rfl, .inl ⟨rfl, _, SqL.of (s9 _ _ hx)⟩, _, rfl, _, rfl, _, rfl, p, cl, _, g, rfl, z7.same s9, by omega, g1, wideB (by omega) (by omega), fun H10 r10 b10 z10 r100 r101 => ⟨_, _, rfl, rfl, (by show 2 ≤ sizeLine; decide), fun nn0 nn => ?_⟩⟩
        have hx10 := b10 _ _ nLp (s9 _ _ hx)
        have hp10 : Paired (RunV H10) xs rs := Paired.imp (fun _ _ h => RunV.bag (z7.same s9) b10 (h.same s9)) hpr
        have sn := same_upd (o := .tup [.str kd, .int (1 + r10)]) nn
        refine ⟨L, _, _, rfl, rfl, sn _ _ hx10, small (by omega), ?_⟩
        have bu : But L (upd H10 nn0 (.tup [.str kd, .int (1 + r10)])) (upd (upd H10 nn0 (.tup [.str kd, .int (1 + r10)])) L (.lst (xs ++ [.ref nn0]))) := but_upd
        refine ⟨_, _, rs ++ [(kd, 1 + r10)], rfl, fun b o nb e => ?_, ((z10.same sn).keep (fun o e => bu _ _ nLp.symm e) (fun o e => bu _ _ cL e)).mono (by omega), ?_, ⟨_, upd_same, Paired.app (prs_grow (sn _ _ hx10) (prs_same sn hp10)) (.cons (RunV.grow (sn _ _ hx10) ⟨nn0, rfl, upd_same⟩) .nil)⟩, ?_, ?_, alt_snoc alt (ha rfl)⟩
        · have : b ≠ L := ne_of_none e (fr nL)
          exact bu _ _ this (sn _ _ (b10 _ _ nb (s9 _ _ (B8 _ _ nb e))))
        · exact bu _ _ lL (sn _ _ (b10 _ _ lp (s9 _ _ hl7)))
        · rw [List.length_append]
          show rs.length + 1 ≤ i + 1
          omega
        · intro r hr
          rcases List.mem_append.mp hr with h | h
          · exact okr r h
          · rw [List.mem_singleton.mp h]
            exact ⟨kk, by show 1 ≤ 1 + r10; omega, by show 1 + r10 ≤ _; omega⟩
      · obtain ⟨s9, ha⟩ := hq
        exact ⟨_, _, rs, rfl, B8.trans (Same.but s9), (z7.same s9).mono (by omega), s9 _ _ hl7, ⟨xs, s9 _ _ hx, prs_same s9 hpr⟩, by omega, okr, alt⟩
    · obtain ⟨y5, y6, rs, rfl, b6, z6, hl6, hR, lr, okr, alt⟩ := hP
      exact ⟨_, rfl, q H6 L rs b6 (z6.mono (by omega)) (fr nL) nLp hR ⟨by omega, okr, alt⟩ (by omega)⟩
end
end UP

set_option Elab.async false
set_option linter.all false
set_option maxRecDepth 100000
set_option maxHeartbeats 4000000
set_option pp.maxSteps 300
namespace UP
open PySem PySem.Spec PyProof.Rows L2
theorem cut5 (xs : List V) : cutV xs none (some 5) = xs.take 5 := by
  unfold cutV
  rw [show HT.sIx xs.length xs.length (some 5) = min 5 xs.length from HT.sIx_nat xs.length xs.length 5, HT.sIx_none]
  rw [List.drop_zero, Nat.sub_zero]
  by_cases h : 5 ≤ xs.length
  · rw [Nat.min_eq_left h]
  · rw [Nat.min_eq_right (by omega), List.take_length, List.take_of_length_le (by omega)]
theorem p29 : (10 : Int) ^ ((29 : Int).toNat) = 100000000000000000000000000000 := by decide +kernel
theorem p38 : (10 : Int) ^ ((38 : Int).toNat) = 100000000000000000000000000000000000000 := by decide +kernel
theorem p39 : (10 : Int) ^ ((39 : Int).toNat) = 1000000000000000000000000000000000000000 := by decide +kernel
theorem nice_int30 {i : Int} (h0 : 0 ≤ i) (h : i ≤ 1000000000000000000000000000000) : Nice 101 0 (.int i) := by
  have b := nice_int (i := i) (by
    have : (10 : Nat) ^ 60 = 1000000000000000000000000000000000000000000000000000000000000 := by decide +kernel
    omega)
  have h2 : i.natAbs < 2 ^ 100 := Nat.lt_of_le_of_lt (m := 1000000000000000000000000000000) (by omega) (by decide +kernel)
  have h3 : i.natAbs.log2 < 100 := by
    by_cases z : i.natAbs = 0
    · rw [z]
      decide
    · exact (Nat.log2_lt z).mpr h2
  refine ⟨b.can, b.dep, b.sho, b.lea, ?_⟩
  rw [PyData.weight]
  split <;> omega
theorem nice_run30 {r : Run} (h : RunOk r) : Nice 204 1 (dRun r) := by
  have := nice_tup (w := 101) (n := 0) (ds := [.str r.1, .int r.2]) fun d hd => by
    rcases List.mem_cons.mp hd with z | z
    · rw [z]
      exact (nice_str h.1).mono (by decide) (Nat.le_refl _)
    · rw [List.mem_singleton.mp z]
      exact nice_int30 (by have := h.2.1; omega) h.2.2
  exact this
theorem nice_runs30 {rs : List Run} (h : ∀ r ∈ rs, RunOk r) (l : rs.length ≤ 400) : Nice 82000 2 (.list (rs.map dRun)) := by
  have := nice_list (w := 204) (n := 1) (ds := rs.map dRun) fun d hd => by
    obtain ⟨e, he, rfl⟩ := List.mem_map.mp hd
    exact nice_run30 (h e he)
  exact this.mono (by rw [List.length_map]; omega) (Nat.le_refl _)
theorem dps_runs30 {K : PySem.W.Frag} {H : Hp} {v : V} {rs : List Run} (h : RunsG H v rs) (ok : ∀ r ∈ rs, RunOk r) (l : rs.length ≤ 400) : ∃ d, DpS K H v d ∧ Nice 82000 2 d := by
  obtain ⟨a, xs, rfl, hx, hp⟩ := h
  have lx : xs.length = rs.length := Paired.len hp
  obtain ⟨d, h1, h2⟩ := dps_seq (K := K) (w := 204) (n := 1) hx fun x hx => by
    obtain ⟨i, hi, e⟩ := List.mem_iff_getElem.mp hx
    obtain ⟨r, er, t, et, hr⟩ := Paired.at hp (List.getElem?_eq_getElem hi)
    rw [e] at et
    subst et
    have okr := ok r (List.mem_of_getElem? er)
    have := dps_seq (K := K) (w := 101) (n := 0) hr fun x hx => by
      rcases List.mem_cons.mp hx with e | e
      · rw [e]
        exact ⟨.str r.1, fun _ _ => .str _, (nice_str okr.1).mono (by decide) (Nat.le_refl _)⟩
      · rw [List.mem_singleton.mp e]
        exact ⟨.int r.2, fun _ _ => .int _, nice_int30 (by have := okr.2.1; omega) okr.2.2⟩
    exact this
  exact ⟨d, h1, h2.mono (by rw [lx]; omega) (Nat.le_refl _)⟩
theorem sq_one (r : Run) : sqS [r] = rwS r := join_one _
theorem sq_nil : sqS [] = "" := join_nil
theorem paired_setJ {α β : Type} {F : α → β → Prop} {x : α} {y : β} : ∀ {l₁ : List α} {l₂ : List β} (n : Nat), Paired F l₁ l₂ → F x y → Paired F (l₁.set n x) (l₂.set n y)
  | [], [], n, .nil, _ => by cases n <;> exact .nil
  | _ :: _, _ :: _, 0, .cons _ t, k => .cons k t
  | _ :: _, _ :: _, n + 1, .cons h t, k => .cons h (paired_setJ n t k)
theorem two_atJ {a b r : Int} (r0 : 0 ≤ r) (r1 : r < 2) : ∃ g, atI [V.int a, V.int b] r = some (.int g) ∧ (g = a ∨ g = b) := by
  rcases (show r = 0 ∨ r = 1 by omega) with e | e
  · rw [e]
    exact ⟨a, rfl, .inl rfl⟩
  · rw [e]
    exact ⟨b, rfl, .inr rfl⟩
def abR : List Run := [(("a" : Str), (1 : Int)), (("b" : Str), (1 : Int))]
def ab200 : List Run := (List.replicate 200 abR).flatten
theorem ab_len : ab200.length = 400 := by decide +kernel
theorem ab_text : sqS ab200 = repS "a b " 199 ++ "a b" := by
  refine TL.ext_tl ?_
  unfold sqS
  rw [TL.join_eq, TL.tl_join, tl_sp, TL.tl_append]
  decide +kernel
theorem flat_at : ∀ (n : Nat) (i : Nat), i < 2 * n → ((List.replicate n abR).flatten)[i]? = some (if i % 2 = 0 then ((("a" : Str), (1 : Int)) : Run) else (("b" : Str), (1 : Int)))
  | 0, i, h => by omega
  | n + 1, i, h => by
    rw [List.replicate_succ, List.flatten_cons]
    match i with
    | 0 => rfl
    | 1 => rfl
    | j + 2 =>
      show ((List.replicate n abR).flatten)[j]? = _
      rw [flat_at n j (by omega)]
      have : (j + 2) % 2 = j % 2 := by omega
      rw [this]
theorem ab_ok : SeqOk ab200 := by
  have l := ab_len
  refine ⟨by omega, fun r hr => ?_, fun i x y hx hy => ?_⟩
  · obtain ⟨i, hi, e⟩ := List.mem_iff_getElem.mp hr
    have := flat_at 200 i (by omega)
    rw [show (List.replicate 200 abR).flatten = ab200 from rfl, List.getElem?_eq_getElem hi, e] at this
    have := Option.some.inj this
    rw [this]
    split
    · exact ⟨by decide +kernel, by decide, by decide⟩
    · exact ⟨by decide +kernel, by decide, by decide⟩
  · have h1 : i + 1 < ab200.length := (List.getElem?_eq_some_iff.mp hy).1
    have hx' : (List.replicate 200 abR).flatten[i]? = some x := hx
    have hy' : (List.replicate 200 abR).flatten[i + 1]? = some y := hy
    rw [flat_at 200 i (by omega)] at hx'
    rw [flat_at 200 (i + 1) (by omega)] at hy'
    cases hx'
    cases hy'
    have ab : ("a" : Str) ≠ "b" := by decide +kernel
    by_cases c : i % 2 = 0
    · rw [if_pos c, if_neg (by omega)]
      exact ab
    · rw [if_neg c, if_pos (by omega)]
      exact ab.symm
theorem paired_repJ {H : Hp} {x y : V} {r q : Run} (hx : RunV H x r) (hy : RunV H y q) : ∀ n : Nat, Paired (RunV H) (List.replicate n [x, y]).flatten (List.replicate n [r, q]).flatten
  | 0 => .nil
  | n + 1 => by
    rw [List.replicate_succ, List.replicate_succ, List.flatten_cons, List.flatten_cons]
    exact .cons hx (.cons hy (paired_repJ hx hy n))
section
variable {P : Program} {w : World} {K : PySem.W.Frag} {mg : Str → Option Value} {base : Heap}
/-! _law_right: slots 0:bag 1:runs 2:due 3:step 4:run 5:passed 6:kept 7:found 8:word 9:one -/
abbrev s_law_right : Stmt := topS 40
theorem sc_law_right : FnScope ["bag", "runs", "due", "step", "run", "passed", "kept", "found", "word", "one"] ["bag", "runs"] (defScope s_law_right) := ⟨rfl, rfl, rfl, by decide +kernel, rfl, by decide +kernel, by decide +kernel⟩
def sp_law_right : Sp := fun vs H Q _ => ∃ (pb cl D : Addr) (n : Nat) (rs : List Run), vs = [.ref pb, .ref D] ∧ Bag H pb cl n ∧ n ≤ 100000000 ∧ Runs H D rs ∧ SeqOk rs ∧ D ≠ pb ∧ cl ≠ D ∧ ∀ H', Bag H' pb cl (n + 1000) → Q (.bl true) H'
theorem ok_law_right (D : Df K mg "_law_right" s_law_right) (T : Tx mg) (G_law_text : Has P w K mg base 1 "_law_text" ["runs"] sp_law_text) (G_law_either : Has P w K mg base 3 "_law_either" ["bag", "items"] sp_law_either)
    (G_format_sequence : Has P w K mg base 6 "format_sequence" ["sequence"] sp_format_sequence) (G_parse_sequence : Has P w K mg base 5 "parse_sequence" ["text"] sp_parse_sequence) (G_format_state : Has P w K mg base 4 "format_state" ["state"] sp_format_state) (G_parse_state : Has P w K mg base 5 "parse_state" ["text"] sp_parse_state) :
    HasG P w K mg base 7 "_law_right" ["bag", "runs"] sp_law_right := by
  refine hasG_of D sc_law_right (fun _ _ _ _ _ _ us hl => match us, hl with | [_, _], _ => rfl) (fun vs H Q E h => ?_) (fun f cdv A outer s₀ H vs Q E hr gd h => ?_)
  · obtain ⟨_, _, _, _, _, rfl, _⟩ := h
    rfl
  · obtain ⟨pb, cl, D, n, rs, rfl, zb, ln, R0, ok, nDp, cD, q⟩ := h
    have l4 := ok.1
    have rok : ∀ r ∈ rs, RwOk r := fun r hr => (ok.2.1 r hr).rw
    refine ⟨_, (pss_cons (ps_set (i := 2) sc_law_right.nd rfl (by first | exact Or.inl rfl | exact Or.inr rfl) (pe_callH G_law_text (hr.mono (by omega)) (by rfl) (pa_cons (pv 1) pa_nil)))
    (pss_cons (ps_for PassesOwn.never rfl (pi_range1 (by rfl) T.n_range (pa_cons pe_int pa_nil)) (pg_name (i := 3) sc_law_right.nd rfl (by first | exact Or.inl rfl | exact Or.inr rfl))
      (pss_cons (ps_set (i := 5) sc_law_right.nd rfl (by first | exact Or.inl rfl | exact Or.inr rfl) (pe_callH G_law_either (hr.mono (by omega)) (by rfl) (pa_cons (pv 0) (pa_cons (pe_lc (own := [("one", 9)]) rfl sc_law_right.nd (pi_list (pv 1)) (blkOk_by (N := ["bag", "runs", "due", "step", "run", "passed", "kept", "found", "word", "one"]) (sc := defScope s_law_right) (by decide +kernel)) (fun _ _ _ _ _ => (pg_name (i := 9) sc_law_right.nd rfl (by first | exact Or.inl rfl | exact Or.inr rfl))) (fun _ _ _ _ _ => pts_nil) (fun _ _ _ _ _ => (pe_callH G_law_either (hr.mono (by omega)) (by rfl) (pa_cons (pv 0) (pa_cons (pv 9) pa_nil))))) pa_nil))))
    (pss_cons (ps_set (i := 6) sc_law_right.nd rfl (by first | exact Or.inl rfl | exact Or.inr rfl) (pe_callB (call_reprV gd (room70 hr)) (by rfl) T.n_repr (by decide +kernel) (pa_cons (pv 5) pa_nil)))
    (pss_cons (ps_if (PW.pt (pw_or (pt_cmpR op_ne (pe_callH G_format_sequence (hr.mono (by omega)) (by rfl) (pa_cons (pv 5) pa_nil)) (pv 2) (nomark _)) (pw_or1 (pt_cmpR op_ne (pe_callB (call_reprV gd (room70 hr)) (by rfl) T.n_repr (by decide +kernel) (pa_cons (pv 5) pa_nil)) (pv 6) (nomark _))))) (pss_one (ps_ret pe_bl)) pss_nil)
    (pss_cons (ps_set (i := 7) sc_law_right.nd rfl (by first | exact Or.inl rfl | exact Or.inr rfl) (pe_callH G_parse_sequence (hr.mono (by omega)) (by rfl) (pa_cons (pv 2) pa_nil)))
    (pss_cons (ps_if (pt_cmpR op_ne (pe_callB (call_reprV gd (room70 hr)) (by rfl) T.n_repr (by decide +kernel) (pa_cons (pv 7) pa_nil)) (pe_callB (call_reprV gd (room70 hr)) (by rfl) T.n_repr (by decide +kernel) (pa_cons (pv 1) pa_nil)) (nomark _)) (pss_one (ps_ret pe_bl)) pss_nil)
    (pss_one (ps_expr (pe_bm PySem.F.plainAttrs_list PySem.F.slot_list_append PySem.F.type_list_append mt_append (pv 7) (pa_cons pe_non pa_nil))))))))))
    (pss_cons (ps_for PassesOwn.never rfl (pi_list (pe_slice sl_list (pv 1) po_none (po_some pe_int))) (pg_name (i := 4) sc_law_right.nd rfl (by first | exact Or.inl rfl | exact Or.inr rfl))
      (pss_cons (ps_set (i := 8) sc_law_right.nd rfl (by first | exact Or.inl rfl | exact Or.inr rfl) (pe_callH G_law_text (hr.mono (by omega)) (by rfl) (pa_cons (pe_lst (pa_cons (pv 4) pa_nil)) pa_nil)))
    (pss_one (ps_if (PW.pt (pw_or (pt_cmpR op_ne (pe_callH G_format_state (hr.mono (by omega)) (by rfl) (pa_cons (pe_callH G_law_either (hr.mono (by omega)) (by rfl) (pa_cons (pv 0) (pa_cons (pv 4) pa_nil))) pa_nil)) (pv 8) (nomark _)) (pw_or1 (pt_cmpR op_ne (pe_callB (call_reprV gd (room70 hr)) (by rfl) T.n_repr (by decide +kernel) (pa_cons (pe_callH G_parse_state (hr.mono (by omega)) (by rfl) (pa_cons (pv 8) pa_nil)) pa_nil)) (pe_callB (call_reprV gd (room70 hr)) (by rfl) T.n_repr (by decide +kernel) (pa_cons (pv 4) pa_nil)) (nomark _))))) (pss_one (ps_ret pe_bl)) pss_nil))))
    (pss_cons (ps_if (pt_cmpR (op_neD hr.units) (pv 1) (pe_lst pa_nil) (nomark _)) (pss_one (ps_asg (pe_tup (pa_cons (pe_ix ix_tup (pe_ix ix_list (pv 1) (pe_un un_neg pe_int) (fun _ _ => rfl)) pe_int (fun _ _ => rfl)) (pa_cons (pe_op op_add (pe_op op_mod (pe_ix ix_tup (pe_ix ix_list (pv 1) (pe_un un_neg pe_int) (fun _ _ => rfl)) pe_int (fun _ _ => rfl)) (pe_op op_pow pe_int pe_int)) pe_int) pa_nil))) (pg_sub (pv 1) (pe_un un_neg pe_int) set_list))) pss_nil)
    (pss_one (ps_ret (pe_cmpR op_eq (pe_callH G_format_sequence (hr.mono (by omega)) (by rfl) (pa_cons (pv 1) pa_nil)) (pe_callH G_law_text (hr.mono (by omega)) (by rfl) (pa_cons (pv 1) pa_nil)) (nomark _)))))))), ?_⟩
    refine ⟨_, rfl, D, rs, rfl, R0, rok, l4, fun H1 s1 => ?_⟩
    have z1 := zb.same s1
    have R1 := R0.same s1
    refine ⟨2, rfl, by decide, by decide, for_range (lo := 0) (n := 2) (fun j σ H' => ∃ y3 y4 y5 y6 y7 y8 y9, σ = [some (.ref pb), some (.ref D), some (.str (sqS rs)), y3, y4, y5, y6, y7, y8, y9] ∧ Bag H' pb cl (n + 401 * j) ∧ Runs H' D rs) ⟨_, _, _, _, _, _, _, rfl, z1, R1⟩ (fun j σ H hj hP => ?_) (fun σ H hP => ?_)⟩
    · obtain ⟨y3, y4, y5, y6, y7, y8, y9, rfl, z, R⟩ := hP
      have hj : j < 2 := hj
      obtain ⟨ys, hD, hy⟩ := id R
      have ly : ys.length = rs.length := Paired.len hy
      obtain ⟨qb, hb1, hb2, _⟩ := id z
      refine ⟨_, rfl, _, rfl, D, rfl, ⟨ys, .of hD⟩, fun L nL => ?_⟩
      have nLp := z.ne nL
      have cL : cl ≠ L := ne_of_none hb2 nL
      have nLD : D ≠ L := ne_of_none hD nL
      refine lc_list (K := K) (a := D) (xs := ys) (fun k H' => Bag H' pb cl (n + 401 * j + k) ∧ H' D = some (.lst ys) ∧ Paired (RunV H') ys rs ∧ ∃ zs, H' L = some (.lst zs) ∧ Paired (RunG H') zs (rs.take k)) ⟨z.same (same_upd nL), same_upd nL _ _ hD, prs_same (same_upd nL) hy, [], upd_same, .nil⟩ (fun k H' _ hP => .of hP.2.1) (fun k x H3 ex hP => ?_) (fun H3 hP => ?_)
      · obtain ⟨z3, hD3, hy3, zs, hL, hz⟩ := hP
        obtain ⟨e, er, t, rfl, ht⟩ := Paired.at hy3 ex
        have hk : k < ys.length := (List.getElem?_eq_some_iff.mp ex).1
        obtain ⟨qb3, hb3, _⟩ := id z3
        refine ⟨rfl, yesT ⟨_, rfl, _, rfl, pb, cl, t, _, _, rfl, z3, by omega, .inr ht, ne_of ht hb3 (by intro y; cases y), fun H4 p b4 z4 np hp4 => ⟨zs, b4 _ _ nLp hL, ?_, ?_, ?_, ?_, _, upd_same, ?_⟩⟩⟩
        · have := Paired.len hz
          rw [List.length_take] at this
          exact small (by omega)
        · have bu : But L H4 (upd H4 L (.lst (zs ++ [.ref p]))) := but_upd
          exact z4.keep (fun o e' => bu _ _ nLp.symm e') (fun o e' => bu _ _ cL e')
        · rw [upd_ne nLD]
          exact b4 _ _ nDp hD3
        · exact Paired.imp (fun _ _ y => RunV.grow (b4 _ _ nLp hL) (RunV.bag z3 b4 y)) hy3
        · rw [take_snoc er]
          have gr : ∀ x l, Sq2 H4 x l → l ≠ zs → Sq2 (upd H4 L (.lst (zs ++ [.ref p]))) x l := fun x l e' nz => by
            rcases e' with e' | e'
            · refine .inl ?_
              rw [upd_ne (ne_of e' (b4 _ _ nLp hL) (fun q => nz (HO.lst.inj q)))]
              exact e'
            · refine .inr ?_
              rw [upd_ne (ne_of e' (b4 _ _ nLp hL) (by intro z; cases z))]
              exact e'
          have notz : ∀ (e : Run), ([.str e.1, .int e.2] : List V) ≠ zs := fun e' q => by
            rw [← q] at hz
            generalize rs.take k = w at hz
            cases hz with
            | cons h1 h2 =>
              obtain ⟨_, e3, _⟩ := h1
              cases e3
          exact Paired.app (Paired.imp (fun _ _ y => by
            obtain ⟨t', rfl, ht'⟩ := RunG.bag z3 b4 y
            exact ⟨t', rfl, gr _ _ ht' (notz _)⟩) hz) (.cons ⟨p, rfl, gr _ _ hp4 (notz _)⟩ .nil)
      · obtain ⟨z3, hD3, hy3, zs, hL, hz⟩ := hP
        rw [ly, List.take_length] at hz
        have z3 : Bag H3 pb cl (n + 401 * j + 400) := z3.mono (by omega)
        refine ⟨pb, cl, L, _, zs, rfl, z3, by omega, .inl hL, nLp, fun H4 p b4 z4 np hp4 => ?_⟩
        have G4 : RunsG H4 (.ref p) rs := ⟨p, zs, rfl, hp4, Paired.imp (fun _ _ y => RunG.bag z3 b4 y) hz⟩
        have R4 : Runs H4 D rs := ⟨ys, b4 _ _ nDp hD3, Paired.imp (fun _ _ y => RunV.bag z3 b4 y) hy3⟩
        clear z3 hL hz hD3 hy3 b4 hp4 hy hD R z
        obtain ⟨DD, d1, d2⟩ := dps_runs30 (K := K) G4 ok.2.1 l4
        obtain ⟨w1, w2, w3⟩ := d2.fits (by decide) (by decide)
        refine ⟨_, rfl, .inr ⟨p, DD, rfl, d1 _ (Same.refl _), w1, w2, w3, ?_⟩⟩
        refine ⟨_, rfl, .ref p, rs, rfl, G4, ok, fun H5 s5 => ⟨_, rfl, rfl, _, rfl, iteN (by rw [decide_eq_true rfl]; rfl) ?_⟩⟩
        refine ⟨_, rfl, .inr ⟨p, DD, rfl, d1 _ s5, w1, w2, w3, _, rfl, rfl, _, rfl, iteN (by rw [decide_eq_true rfl]; rfl) ?_⟩⟩
        have z5 := z4.same s5
        have R5 := R4.same s5
        refine ⟨_, rfl, rs, rfl, ok, fun H6 u s6 nu Ru => ?_⟩
        have R6 := R5.same s6
        have z6 := z5.same s6
        obtain ⟨v1, v2, v3⟩ := (nice_runs30 ok.2.1 l4).fits (by decide) (by decide)
        obtain ⟨us, hu, hup⟩ := id Ru
        obtain ⟨xs6, hx6, hp6⟩ := id R6
        refine ⟨_, rfl, .inr ⟨u, _, rfl, .lst (.of hu) (dp_all hup), v1, v2, v3, _, rfl, .inr ⟨D, _, rfl, .lst (.of hx6) (dp_all hp6), v1, v2, v3, rfl, _, rfl, iteN (by rw [decide_eq_true rfl]; rfl) ?_⟩⟩⟩
        have lu : us.length = rs.length := Paired.len hup
        refine ⟨_, rfl, .inl ⟨rfl, _, SqL.of hu⟩, u, us, _, rfl, rfl, hu, small (by omega), ?_⟩
        have bu : But u H6 (upd H6 u (.lst (us ++ [.non]))) := but_upd
        obtain ⟨qb5, hb5, hb5c, _⟩ := id z5
        obtain ⟨xs5, hx5, _⟩ := id R5
        have nuD : D ≠ u := ne_of_none hx5 nu
        refine ⟨_, _, _, _, _, _, _, rfl, (z6.keep (fun o e' => bu _ _ (ne_of_none hb5 nu) e') (fun o e' => bu _ _ (ne_of_none hb5c nu) e')).mono (by omega), ⟨xs6, bu _ _ nuD hx6, prs_grow hu hp6⟩⟩
    · obtain ⟨y3, y4, y5, y6, y7, y8, y9, rfl, z, R⟩ := hP
      obtain ⟨ys, hD, hy⟩ := id R
      have ly : ys.length = rs.length := Paired.len hy
      -- five of them as states
      refine ⟨_, rfl, _, rfl, D, ys, rfl, .of hD, fun F nF => ?_⟩
      rw [cut5]
      have sF := same_upd (o := .lst (ys.take 5)) nF
      have hF := upd_same (H := H) (a := F) (o := .lst (ys.take 5))
      have nFp := z.ne nF
      generalize upd H F (.lst (ys.take 5)) = H1 at *
      refine ⟨F, rfl, ⟨_, .of hF⟩, for_list (K := K) (a := F) (xs := ys.take 5) (fun i σ H' => ∃ y3 y4 y5 y6 y7 y8 y9, σ = [some (.ref pb), some (.ref D), some (.str (sqS rs)), y3, y4, y5, y6, y7, y8, y9] ∧ Bag H' pb cl (n + 802 + i) ∧ Runs H' D rs ∧ H' F = some (.lst (ys.take 5)) ∧ Paired (RunV H') ys rs) ⟨_, _, _, _, _, _, _, rfl, (z.same sF).mono (by omega), R.same sF, hF, prs_same sF hy⟩ (fun i σ H' _ hP => ?_) (fun i x σ H2 ex hP => ?_) (fun σ H2 hP => ?_)⟩
      · obtain ⟨_, _, _, _, _, _, _, _, _, _, h, _⟩ := hP
        exact .of h
      · obtain ⟨y3, y4, y5, y6, y7, y8, y9, rfl, z2, R2, hF2, hy2⟩ := hP
        have li : i < 5 := by
          have := (List.getElem?_eq_some_iff.mp ex).1
          rw [List.length_take] at this
          omega
        rw [List.getElem?_take, if_pos li] at ex
        obtain ⟨r, er, t, rfl, ht⟩ := Paired.at hy2 ex
        have okr := ok.2.1 r (List.mem_of_getElem? er)
        refine ⟨_, rfl, (by show 1 ≤ sizeLine; decide), fun l nl => ?_⟩
        have sl := same_upd (o := .lst [.ref t]) nl
        refine ⟨l, [r], rfl, ⟨_, upd_same, .cons ⟨t, rfl, sl _ _ ht⟩ .nil⟩, (fun x hx => by rw [List.mem_singleton.mp hx]; exact okr.rw), by show 1 ≤ 400; omega, fun H3 s3 => ?_⟩
        have s13 := sl.trans s3
        have z3 := z2.same s13
        have ht3 := s13 _ _ ht
        have R3 := R2.same s13
        have hF3 := s13 _ _ hF2
        have hy3 := prs_same s13 hy2
        rw [sq_one]
        obtain ⟨qb3, hb3, _⟩ := id z3
        refine ⟨_, rfl, _, rfl, pb, cl, t, _, _, rfl, z3, by omega, .inr ht3, ne_of ht3 hb3 (by intro y; cases y), fun H4 p b4 z4 np hp4 => ?_⟩
        refine ⟨.ref p, some r, rfl, ⟨p, rfl, hp4⟩, (fun x hx => by cases hx; exact okr.rw), fun H5 s5 => ⟨_, rfl, rfl, _, rfl, iteN (by show (!decide (V.str (rwS r) = V.str (rwS r))) = false; rw [decide_eq_true rfl]; rfl) ?_⟩⟩
        refine ⟨_, rfl, some r, rfl, (fun x hx => by cases hx; exact okr.rw), fun H6 v s6 hv => ?_⟩
        obtain ⟨tv, rfl, htv⟩ := hv
        obtain ⟨v1, v2, v3⟩ := (nice_run30 okr).fits (by decide) (by decide)
        have b46 : But pb H3 H6 := b4.trans (Same.but (s5.trans s6))
        have ht6 := b46 _ _ (ne_of ht3 hb3 (by intro y; cases y)) ht3
        refine .inr ⟨tv, dRun r, rfl, .tup (.of htv) (.cons (.str _) (.cons (.int _) .nil)), v1, v2, v3, _, rfl, .inr ⟨t, dRun r, rfl, .tup (.of ht6) (.cons (.str _) (.cons (.int _) .nil)), v1, v2, v3, rfl, _, rfl, iteN (by rw [decide_eq_true rfl]; rfl) ?_⟩⟩
        have z6 := (z4.same s5).same s6
        obtain ⟨xs3, hx3, hp3⟩ := R3
        have hp6 : ∀ {xs}, Paired (RunV H3) xs rs → Paired (RunV H6) xs rs := fun h => Paired.imp (fun _ _ y => RunV.bag z3 b46 y) h
        exact ⟨_, _, _, _, _, _, _, rfl, z6.mono (by omega), ⟨xs3, b46 _ _ nDp hx3, hp6 hp3⟩, b46 _ _ nFp hF3, hp6 hy3⟩
      · obtain ⟨y3, y4, y5, y6, y7, y8, y9, rfl, z2, R2, _, _⟩ := hP
        have z2 : Bag H2 pb cl (n + 900) := z2.mono (by rw [List.length_take]; omega)
        obtain ⟨xs, hx, hp⟩ := id R2
        have lx : xs.length = rs.length := Paired.len hp
        refine ⟨_, rfl, Nat.zero_le _, fun e ne => ?_⟩
        have se := same_upd (o := .lst []) ne
        have okR : ∀ r ∈ rs, KindOk r.1 := fun r h => (ok.2.1 r h).1
        refine ⟨.list (rs.map dRun), .list [], .lst (.of (se _ _ hx)) (dp_all (prs_same se hp)), .lst (.of upd_same) .nil, shaped_runs okR, shaped_nil, _, rfl, ?_⟩
        rw [eqv_nil]
        have z3 := z2.same se
        have R3 := R2.same se
        have hx3 := se _ _ hx
        have hp3 := prs_same se hp
        generalize upd H2 e (.lst []) = H3 at *
        have last : ∀ (H4 : Hp) (rs' : List Run), Runs H4 D rs' → SeqOk rs' → Bag H4 pb cl (n + 900) → ∀ H5 H6 z, Same H4 H5 → Same H5 H6 → z = sqS rs' → Q (.bl (decide (V.str (sqS rs') = V.str z))) H6 := fun H4 rs' R' ok' z4 H5 H6 z s5 s6 ez => by
          rw [ez, decide_eq_true rfl]
          exact q _ (((z4.same s5).same s6).mono (by omega))
        cases hrs : rs with
        | nil =>
          refine iteN rfl ?_
          rw [← hrs]
          exact ⟨_, rfl, .ref D, rs, rfl, R3.dress, ok, fun H5 s5 => ⟨_, rfl, D, rs, rfl, R3.same s5, rok, l4, fun H6 s6 => ⟨rfl, last H3 rs R3 ok z3 H5 H6 _ s5 s6 rfl⟩⟩⟩
        | cons r0 t0 =>
          refine iteP rfl ?_
          rw [← hrs]
          have hne : rs ≠ [] := by rw [hrs]; intro z; cases z
          obtain ⟨ri, rl, erl⟩ : ∃ ri rl, rs = ri ++ [rl] := ⟨rs.dropLast, rs.getLast hne, (List.dropLast_concat_getLast hne).symm⟩
          subst erl
          obtain ⟨xi, xv, rfl, hpi, tl, rfl, htl⟩ := paired_snocR _ _ hp3
          have exl : atI (xi ++ [V.ref tl]) (-1) = some (.ref tl) := atI_last _ _
          have okl := ok.2.1 rl (List.mem_append.mpr (.inr (List.mem_singleton.mpr rfl)))
          refine ⟨_, rfl, 1, rfl, D, _, -1, _, rfl, rfl, .of hx3, exl, tl, _, 0, _, rfl, rfl, .of htl, at0, _, rfl, 1, rfl, D, _, -1, _, rfl, rfl, .of hx3, exl, tl, _, 1, _, rfl, rfl, .of htl, at1, _, _, rfl, rfl, ⟨by decide, by decide, by decide⟩, _, _, rfl, rfl, (by show (0 : Int) < (10 : Int) ^ ((29 : Int).toNat); rw [p29]; decide), _, _, rfl, rfl, (by show 2 ≤ sizeLine; decide), fun u nu => ?_⟩
          have su := same_upd (o := .tup [.str rl.1, .int (rl.2 % (10 : Int) ^ ((29 : Int).toNat) + 1)]) nu
          have hu := upd_same (H := H3) (a := u) (o := .tup [.str rl.1, .int (rl.2 % (10 : Int) ^ ((29 : Int).toNat) + 1)])
          have hx4 := su _ _ hx3
          refine ⟨_, rfl, 1, rfl, D, _, -1, xi.length, rfl, rfl, hx4, ?_, ?_⟩
          · rw [List.length_append]
            exact ixN_lastX
          rw [set_lastX]
          have hp4 := prs_same su hpi
          have z4 := z3.same su
          generalize upd H3 u (.tup [.str rl.1, .int (rl.2 % (10 : Int) ^ ((29 : Int).toNat) + 1)]) = H4 at *
          have m0 : 0 ≤ rl.2 % (10 : Int) ^ ((29 : Int).toNat) := Int.emod_nonneg _ (by rw [p29]; decide)
          have m1 : rl.2 % (10 : Int) ^ ((29 : Int).toNat) < (10 : Int) ^ ((29 : Int).toNat) := Int.emod_lt_of_pos _ (by rw [p29]; decide)
          have m2 : rl.2 % (10 : Int) ^ ((29 : Int).toNat) < 100000000000000000000000000000 := by
            have := p29
            omega
          generalize rl.2 % (10 : Int) ^ ((29 : Int).toNat) = mm at *
          have bu : But D H4 (upd H4 D (.lst (xi ++ [.ref u]))) := but_upd
          have R5 : Runs (upd H4 D (.lst (xi ++ [.ref u]))) D (ri ++ [(rl.1, mm + 1)]) := ⟨_, upd_same, Paired.app (prs_grow hx4 hp4) (.cons (RunV.grow hx4 ⟨u, rfl, hu⟩) .nil)⟩
          have z5 := z4.keep (fun o e' => bu _ _ nDp.symm e') (fun o e' => bu _ _ cD e')
          generalize upd H4 D (.lst (xi ++ [.ref u])) = H5 at *
          have l5 : (ri ++ [(rl.1, mm + 1)]).length ≤ 400 := by
            rw [List.length_append] at l4 ⊢
            exact l4
          have ok5 : SeqOk (ri ++ [(rl.1, mm + 1)]) := by
            refine ⟨l5, fun r hr => ?_, fun i x y hx hy => ?_⟩
            · rcases List.mem_append.mp hr with h | h
              · exact ok.2.1 r (List.mem_append.mpr (.inl h))
              · rw [List.mem_singleton.mp h]
                exact ⟨okl.1, by show 1 ≤ mm + 1; omega, by show mm + 1 ≤ _; omega⟩
            · have sh : ∀ (k : Nat) (z : Run), (ri ++ [(rl.1, mm + 1)])[k]? = some z → ∃ z', (ri ++ [rl])[k]? = some z' ∧ z'.1 = z.1 := fun k z hz => by
                by_cases c : k < ri.length
                · rw [List.getElem?_append_left c] at hz ⊢
                  exact ⟨z, hz, rfl⟩
                · have hk := (List.getElem?_eq_some_iff.mp hz).1
                  rw [List.length_append] at hk
                  have hk : k < ri.length + 1 := hk
                  obtain rfl : k = ri.length := by omega
                  rw [List.getElem?_append_right (Nat.le_refl _), Nat.sub_self] at hz ⊢
                  cases hz
                  exact ⟨rl, rfl, rfl⟩
              obtain ⟨x', h1, e1⟩ := sh _ _ hx
              obtain ⟨y', h2, e2⟩ := sh _ _ hy
              have := ok.2.2 i x' y' h1 h2
              rw [e1, e2] at this
              exact this
          exact ⟨_, rfl, .ref D, _, rfl, R5.dress, ok5, fun H6 s6 => ⟨_, rfl, D, _, rfl, R5.same s6, (fun r hr => (ok5.2.1 r hr).rw), l5, fun H7 s7 => ⟨rfl, last H5 _ R5 ok5 z5 H6 H7 _ s6 s7 rfl⟩⟩⟩
/-! law: slots 0:script 1:bag 2:turn 3:some 4:large -/
abbrev s_law : Stmt := topS 41
theorem sc_law : FnScope ["script", "bag", "turn", "some", "large"] ["script"] (defScope s_law) := ⟨rfl, rfl, rfl, by decide +kernel, rfl, by decide +kernel, by decide +kernel⟩
def sp_law (K : PySem.W.Frag) : Sp := fun vs H Q _ => ∃ (a : Addr) (ns : List Int), vs = [.ref a] ∧ SqL K H a (ns.map V.int) ∧ ns.length ≤ 63 ∧ ∀ H', Q (.bl true) H'
theorem fn_law {f : Addr} {fd : FuncData} (F : Fun K "law" "law" s_law f fd) (T : Tx mg) (G_law_bag : Has P w K mg base 1 "_law_bag" ["script"] (sp_law_bag K)) (G_law_draw : Has P w K mg base 2 "_law_draw" ["bag", "bound"] sp_law_draw)
    (G_law_runs : Has P w K mg base 3 "_law_runs" ["bag", "size"] sp_law_runs) (G_law_right : HasG P w K mg base 7 "_law_right" ["bag", "runs"] sp_law_right) (G_law_text : Has P w K mg base 1 "_law_text" ["runs"] sp_law_text)
    (G_format_sequence : Has P w K mg base 6 "format_sequence" ["sequence"] sp_format_sequence) (G_parse_sequence : Has P w K mg base 5 "parse_sequence" ["text"] sp_parse_sequence) (G_format_state : Has P w K mg base 4 "format_state" ["state"] sp_format_state) (G_parse_state : Has P w K mg base 5 "parse_state" ["text"] sp_parse_state) :
    FnC P w K mg base f fd ["script"] (sp_law K) := by
  refine fnC_of F sc_law (fun vs H Q E h => ?_) (fun cdv outer s H vs Q E hr h => ?_)
  · obtain ⟨_, _, rfl, _⟩ := h
    rfl
  · obtain ⟨a, ns, rfl, hS, l63, q⟩ := h
    refine ⟨_, (pss_cons (ps_set (i := 1) sc_law.nd rfl (by first | exact Or.inl rfl | exact Or.inr rfl) (pe_callH G_law_bag (hr.mono (by omega)) (by rfl) (pa_cons (pv 0) pa_nil)))
    (pss_cons (ps_for PassesOwn.never rfl (pi_range1 (by rfl) T.n_range (pa_cons (pe_op op_add pe_int (pe_callB (call_min2 rfl) (by rfl) T.n_min (by decide +kernel) (pa_cons pe_int (pa_cons (pe_callB call_len_seq (by rfl) T.n_len (by decide +kernel) (pa_cons (pv 0) pa_nil)) pa_nil)))) pa_nil)) (pg_name (i := 2) sc_law.nd rfl (by first | exact Or.inl rfl | exact Or.inr rfl))
      (pss_cons (ps_if (pt_not (pt_val (pe_callGH G_law_right (by rfl) (hr.mono (by omega)) (by rfl) (pa_cons (pv 1) (pa_cons (pe_callH G_law_runs (hr.mono (by omega)) (by rfl) (pa_cons (pv 1) (pa_cons (pe_ix ix_list (pe_lst (pa_cons pe_int (pa_cons (pe_callH G_law_draw (hr.mono (by omega)) (by rfl) (pa_cons (pv 1) (pa_cons pe_int pa_nil))) pa_nil))) (pe_callB (call_min2 rfl) (by rfl) T.n_min (by decide +kernel) (pa_cons pe_int (pa_cons (pv 2) pa_nil))) (fun _ _ => rfl)) pa_nil))) pa_nil))))) (pss_one (ps_ret pe_bl)) pss_nil)
    (pss_cons (ps_set (i := 4) sc_law.nd rfl (by first | exact Or.inl rfl | exact Or.inr rfl) (pe_tup (pa_cons pe_str (pa_cons (pe_op op_sub (pe_op op_pow pe_int pe_int) (pe_callH G_law_draw (hr.mono (by omega)) (by rfl) (pa_cons (pv 1) (pa_cons (pe_op op_pow pe_int pe_int) pa_nil)))) pa_nil))))
    (pss_one (ps_if (PW.pt (pw_or (pt_cmpR op_ne (pe_callH G_format_state (hr.mono (by omega)) (by rfl) (pa_cons (pv 4) pa_nil)) (pe_callH G_law_text (hr.mono (by omega)) (by rfl) (pa_cons (pe_lst (pa_cons (pv 4) pa_nil)) pa_nil)) (nomark _)) (pw_or1 (pt_cmpR (op_neD hr.units) (pe_callH G_parse_state (hr.mono (by omega)) (by rfl) (pa_cons (pe_callH G_law_text (hr.mono (by omega)) (by rfl) (pa_cons (pe_lst (pa_cons (pv 4) pa_nil)) pa_nil)) pa_nil)) (pv 4) (nomark _))))) (pss_one (ps_ret pe_bl)) pss_nil)))))
    (pss_cons (ps_set (i := 3) sc_law.nd rfl (by first | exact Or.inl rfl | exact Or.inr rfl) (pe_op op_rep (pe_lst (pa_cons (pe_tup (pa_cons pe_str (pa_cons pe_int pa_nil))) (pa_cons (pe_tup (pa_cons pe_str (pa_cons pe_int pa_nil))) pa_nil))) pe_int))
    (pss_cons (ps_if (PW.pt (pw_or (pt_cmpR op_ne (pe_callH G_format_sequence (hr.mono (by omega)) (by rfl) (pa_cons (pv 3) pa_nil)) (pe_op op_add_str (pe_op op_rep_str pe_str pe_int) pe_str) (nomark _)) (pw_or1 (pt_cmpR (op_neD hr.units) (pe_callH G_parse_sequence (hr.mono (by omega)) (by rfl) (pa_cons (pe_op op_add_str (pe_op op_rep_str pe_str pe_int) pe_str) pa_nil)) (pv 3) (nomark _))))) (pss_one (ps_ret pe_bl)) pss_nil)
    (pss_cons (ps_if (PW.pt (pw_or (pt_cmpR op_ne (pe_callH G_format_state (hr.mono (by omega)) (by rfl) (pa_cons pe_non pa_nil)) pe_str (nomark _)) (pw_or1 (pt_cmpR op_notN (pe_callH G_parse_state (hr.mono (by omega)) (by rfl) (pa_cons pe_str pa_nil)) pe_non (nomark _))))) (pss_one (ps_ret pe_bl)) pss_nil)
    (pss_one (ps_ret (pe_and (pe_cmpR op_eq (pe_callH G_format_sequence (hr.mono (by omega)) (by rfl) (pa_cons (pe_tup pa_nil) pa_nil)) pe_str (nomark _)) (pe_one (pe_cmpR (op_eqD hr.units) (pe_callH G_parse_sequence (hr.mono (by omega)) (by rfl) (pa_cons pe_str pa_nil)) (pe_lst pa_nil) (nomark _))))))))))), ?_⟩
    refine ⟨_, rfl, a, ns, rfl, hS, l63, fun H1 pb cl s1 npb ncl zb1 => ?_⟩
    refine ⟨_, rfl, a, _, rfl, .inl (s1.seq hS), _, _, rfl, _, _, rfl, rfl, _, rfl, ?_, ?_, for_range (lo := 0) (n := _) (fun i σ H' => ∃ y2 y3 y4, σ = [some (.ref a), some (.ref pb), y2, y3, y4] ∧ Bag H' pb cl (3000 * i))
      ⟨_, _, _, rfl, zb1⟩ (fun i σ H5 hi hP => ?_) (fun σ H2 hP => ?_)⟩
    · rw [List.length_map]
      split <;> omega
    · rw [List.length_map]
      split <;> omega
    · obtain ⟨y2, y3, y4, rfl, z5⟩ := hP
      have hi : i ≤ 100 := by
        have hi : i < _ := hi
        rw [List.length_map] at hi
        split at hi <;> omega
      obtain ⟨N, eN⟩ : ∃ N : Nat, N = 3000 * i := ⟨_, rfl⟩
      have N1 : N ≤ 300000 := by omega
      rw [← eN] at z5
      refine ⟨_, rfl, _, rfl, _, rfl, pb, cl, N, 81, rfl, z5, by omega, by decide, by decide, fun H6 r6 b6 z6 r60 r61 => ⟨(by show 2 ≤ sizeLine; decide), fun l nl => ?_⟩⟩
      have sl := same_upd (o := .lst [.int 400, .int r6]) nl
      have hl := upd_same (H := H6) (a := l) (o := .lst [.int 400, .int r6])
      generalize upd H6 l (.lst [.int 400, .int r6]) = H7 at *
      have z7 := z6.same sl
      refine ⟨_, rfl, _, _, rfl, ?_⟩
      have hm : 0 ≤ (if (0 + (i : Int)) < 1 then (0 + (i : Int)) else 1) ∧ (if (0 + (i : Int)) < 1 then (0 + (i : Int)) else 1) < 2 := by
        split <;> omega
      obtain ⟨g, hg, eg⟩ := two_atJ (a := 400) (b := r6) hm.1 hm.2
      have g0 : 0 ≤ g ∧ g ≤ 400 := by omega
      obtain ⟨m, rfl⟩ : ∃ m : Nat, g = m := ⟨g.toNat, by omega⟩
      refine ⟨l, _, _, _, rfl, rfl, .of hl, hg, pb, cl, N + 1, m, rfl, z7, by omega, by omega, fun H8 D rs b8 z8 nD nDp R8 ok8 l8 => ?_⟩
      have cD : cl ≠ D := by
        obtain ⟨qb, hb1, hb2, _⟩ := id z7
        exact ne_of_none hb2 nD
      refine ⟨pb, cl, D, _, rs, rfl, z8, by omega, R8, ok8, nDp, cD, fun H9 z9 => ⟨true, rfl, iteF ?_⟩⟩
      -- a large state
      refine ⟨_, _, rfl, rfl, ⟨by decide, by decide, by decide⟩, _, rfl, _, _, rfl, rfl, ⟨by decide, by decide, by decide⟩, pb, cl, _, _, rfl, z9, by omega, ?_, ?_, fun H10 r b10 z10 r0 r1 => ?_⟩
      · rw [p38]
        decide
      · rw [p38]
        exact wideB (by decide) (by decide)
      have r1 : r < 100000000000000000000000000000000000000 := by
        have := p38
        omega
      refine ⟨_, _, rfl, rfl, (by show 2 ≤ sizeLine; decide), fun t nt => ?_⟩
      obtain ⟨big, eb⟩ : ∃ big : Int, big = (10 : Int) ^ ((39 : Int).toNat) - r := ⟨_, rfl⟩
      have eb' : (10 : Int) ^ ((39 : Int).toNat) - r = big := eb.symm
      have bb : 1 ≤ big ∧ big ≤ 1000000000000000000000000000000000000000 := by
        rw [eb, p39]
        omega
      show tSeq _ _ _ _ (upd H10 t (.tup [.str "none", .int ((10 : Int) ^ ((39 : Int).toNat) - r)]))
      rw [eb']
      have kn : KindOk ("none" : Str) := by decide +kernel
      have okr : RwOk ((("none" : Str), big) : Run) := ⟨kn, bb.1, bb.2⟩
      have st := same_upd (o := .tup [.str "none", .int big]) nt
      have ht := upd_same (H := H10) (a := t) (o := .tup [.str "none", .int big])
      have z11 := z10.same st
      generalize upd H10 t (.tup [.str "none", .int big]) = H11 at *
      have V11 : RunV H11 (.ref t) ((("none" : Str), big) : Run) := ⟨t, rfl, ht⟩
      have ok1 : ∀ x ∈ [((("none" : Str), big) : Run)], RwOk x := fun x hx => by
        rw [List.mem_singleton.mp hx]
        exact okr
      refine ⟨_, rfl, .ref t, some (("none" : Str), big), rfl, V11.dress, (fun x hx => by cases hx; exact okr), fun H12 s12 => ⟨_, rfl, (by show 1 ≤ sizeLine; decide), fun l2 nl2 => ?_⟩⟩
      have s2 := same_upd (o := .lst [.ref t]) nl2
      refine ⟨l2, [(("none" : Str), big)], rfl, ⟨_, upd_same, .cons ((V11.same s12).same s2) .nil⟩, ok1, by show 1 ≤ 400; omega, fun H13 s13 => ⟨rfl, _, rfl, iteN (by rw [sq_one]; show (!decide (V.str (rwS _) = V.str (rwS _))) = false; rw [decide_eq_true rfl]; rfl) ?_⟩⟩
      have s11_13 := (s12.trans s2).trans s13
      refine ⟨_, rfl, (by show 1 ≤ sizeLine; decide), fun l3 nl3 => ?_⟩
      have s3 := same_upd (o := .lst [.ref t]) nl3
      refine ⟨l3, [(("none" : Str), big)], rfl, ⟨_, upd_same, .cons ((V11.same s11_13).same s3) .nil⟩, ok1, by show 1 ≤ 400; omega, fun H14 s14 => ?_⟩
      have s11_14 := (s11_13.trans s3).trans s14
      rw [sq_one]
      refine ⟨some (("none" : Str), big), rfl, (fun x hx => by cases hx; exact okr), fun H15 v s15 hv => ?_⟩
      obtain ⟨tv, rfl, htv⟩ := hv
      have ht15 := s15 _ _ (s11_14 _ _ ht)
      have v2 : SeqAt.shaped (dRun (("none" : Str), big)) = true := shaped_run kn
      refine ⟨_, rfl, dRun (("none" : Str), big), dRun (("none" : Str), big), .tup (.of htv) (.cons (.str _) (.cons (.int _) .nil)), .tup (.of ht15) (.cons (.str _) (.cons (.int _) .nil)), v2, v2, _, rfl, iteN (by rw [SeqAt.eqv_refl _ (can_run kn)]; rfl) ?_⟩
      exact ⟨_, _, _, rfl, ((z11.same s11_14).same s15).mono (by omega)⟩
    · obtain ⟨y2, y3, y4, rfl, zb⟩ := hP
      refine ⟨(by show 2 ≤ sizeLine; decide), fun t1 n1 => ⟨(by show 2 ≤ sizeLine; decide), fun t2 n2 => ⟨(by show 2 ≤ sizeLine; decide), fun l nl => ?_⟩⟩⟩
      have h1 := upd_same (H := H2) (a := t1) (o := .tup [.str "a", .int 1])
      have sa := same_upd (o := .tup [.str "a", .int 1]) n1
      generalize upd H2 t1 (.tup [.str "a", .int 1]) = H3 at *
      have h2 := upd_same (H := H3) (a := t2) (o := .tup [.str "b", .int 1])
      have sb := same_upd (o := .tup [.str "b", .int 1]) n2
      have h1b := sb _ _ h1
      generalize upd H3 t2 (.tup [.str "b", .int 1]) = H4 at *
      have h3 := upd_same (H := H4) (a := l) (o := .lst [.ref t1, .ref t2])
      have sc := same_upd (o := .lst [.ref t1, .ref t2]) nl
      have h1c := sc _ _ h1b
      have h2c := sc _ _ h2
      generalize upd H4 l (.lst [.ref t1, .ref t2]) = H5 at *
      refine ⟨l, 200, _, rfl, rfl, h3, by decide, by decide, (by show 2 * 200 ≤ sizeLine; decide), fun D nD => ?_⟩
      have hD := upd_same (H := H5) (a := D) (o := .lst (List.replicate (200 : Int).toNat [V.ref t1, .ref t2]).flatten)
      have sD := same_upd (o := .lst (List.replicate (200 : Int).toNat [V.ref t1, .ref t2]).flatten) nD
      have hp : Paired (RunV (upd H5 D (.lst (List.replicate (200 : Int).toNat [V.ref t1, .ref t2]).flatten))) (List.replicate 200 [V.ref t1, .ref t2]).flatten ab200 := paired_repJ ⟨t1, rfl, sD _ _ h1c⟩ ⟨t2, rfl, sD _ _ h2c⟩ 200
      have R6 : Runs (upd H5 D (.lst (List.replicate (200 : Int).toNat [V.ref t1, .ref t2]).flatten)) D ab200 := ⟨_, hD, hp⟩
      generalize upd H5 D (.lst (List.replicate (200 : Int).toNat [V.ref t1, .ref t2]).flatten) = H6 at *
      have lr : (repS "a b " 199).length ≤ 800 := by
        have h := congrArg TL.tl ab_text
        have h := congrArg List.length h
        rw [TL.tl_append, List.length_append, ← TL.len_tl, ← TL.len_tl] at h
        have h5 : (sqS ab200).length ≤ 800 := by
          rw [ab_text]
          decide +kernel
        omega
      have lab : ("a b" : Str).length = 3 := by decide +kernel
      have four : ("a b " : Str).length = 4 := by decide +kernel
      refine ⟨_, rfl, .ref D, ab200, rfl, R6.dress, ab_ok, fun H7 s7 => ⟨_, 199, rfl, rfl, by decide, by decide, by rw [four]; decide, by rw [four]; decide, _, _, rfl, rfl, smallE (by rw [lab]; omega), rfl, _, rfl, iteN (by rw [ab_text]; rw [decide_eq_true rfl]; rfl) ?_⟩⟩
      refine ⟨_, 199, rfl, rfl, by decide, by decide, by rw [four]; decide, by rw [four]; decide, _, _, rfl, rfl, smallE (by rw [lab]; omega), ab200, by rw [ab_text]; rfl, ab_ok, fun H8 p s8 np R8 => ⟨_, rfl, ?_⟩⟩
      obtain ⟨xs8, hx8, hp8⟩ := id R8
      obtain ⟨xs6, hx6, hp6⟩ := id ((R6.same s7).same s8)
      have kab : ∀ r ∈ ab200, KindOk r.1 := fun r hr => (ab_ok.2.1 r hr).1
      refine ⟨.list (ab200.map dRun), .list (ab200.map dRun), .lst (.of hx8) (dp_all hp8), .lst (.of hx6) (dp_all hp6), shaped_runs kab, shaped_runs kab, _, rfl, iteN (by rw [SeqAt.eqv_refl _ (nice_runs30 ab_ok.2.1 ab_ok.1).can]; rfl) ?_⟩
      -- nobody
      refine ⟨.non, none, rfl, rfl, (fun r hr => by cases hr), fun H9 s9 => ⟨rfl, _, rfl, iteN (by show (!decide (V.str "-" = V.str "-")) = false; rw [decide_eq_true rfl]; rfl) ?_⟩⟩
      refine ⟨none, rfl, (fun r hr => by cases hr), fun H10 v s10 hv => ?_⟩
      cases hv
      refine ⟨rfl, _, rfl, iteN (by rw [decide_eq_true rfl]; rfl) ?_⟩
      have ok0 : SeqOk [] := ⟨Nat.zero_le _, (fun r h => by cases h), (fun i x y h => by simp at h)⟩
      refine ⟨Nat.zero_le _, fun tp np2 => ⟨.ref tp, [], rfl, ⟨tp, [], rfl, .inr upd_same, .nil⟩, ok0, fun H11 s11 => ⟨rfl, true, congrArg V.bl (by rw [sq_nil]; exact decide_eq_true rfl), iteT ?_⟩⟩⟩
      refine ⟨[], by rw [sq_nil]; rfl, ok0, fun H12 p2 s12 np3 R12 => ⟨Nat.zero_le _, fun e ne => ?_⟩⟩
      obtain ⟨xs12, hx12, hp12⟩ := R12
      cases hp12
      refine ⟨.list [], .list [], .lst (.of (same_upd ne _ _ hx12)) .nil, .lst (.of upd_same) .nil, shaped_nil, shaped_nil, ?_⟩
      exact q _
end
end UP

set_option Elab.async false
set_option linter.all false
set_option maxRecDepth 100000
set_option maxHeartbeats 4000000
namespace UP
open PySem PySem.Spec PyProof.Rows L2
section
variable {K : PySem.W.Frag} {h : Heap} {mg : Str → Option Value}
theorem df_mk {x : Str} {st : Stmt} {f : Addr} {od an : Option Addr} {sl : Array (Option Value)} {oc kV dc pm cd ct : Value} (X : K.In h) (G : h.Ns mainGlobals mg) (a : PySem.W.nsIn K mainGlobals x = some (some (.ref f)))
    (l : K.lookup f = some ⟨oc, od, .func (PySem.W.fnOf x x (defArgs st) (defBody st) (defScope st) .none kV dc pm an cd ct), sl⟩) (c : PySem.W.codeIn K cd x = true) (k : PySem.W.keepIn K (.ref f) = true) : Df K mg x st :=
  ⟨f, _, PySem.W.mg_of X G a, fun_mk l c k⟩
theorem dfd_mk {x : Str} {st : Stmt} {f T : Addr} {od an od2 : Option Addr} {sl sl2 : Array (Option Value)} {n2 : Nat} {oc kV dc pm cd ct oc2 : Value} (X : K.In h) (G : h.Ns mainGlobals mg) (a : PySem.W.nsIn K mainGlobals x = some (some (.ref f)))
    (l : K.lookup f = some ⟨oc, od, .func (PySem.W.fnOf x x (defArgs st) (defBody st) (defScope st) (.ref T) kV dc pm an cd ct), sl⟩) (t : K.lookup T = some ⟨oc2, od2, .seq #[.none] n2, sl2⟩) (c : PySem.W.codeIn K cd x = true) (k : PySem.W.keepIn K (.ref f) = true) : DfD K mg x st [.non] :=
  ⟨f, _, PySem.W.mg_of X G a, ⟨⟨oc, od, _, kV, dc, pm, an, cd, ct, sl, rfl, l, c, .inr ⟨(by intro z; cases z), T, _, [.none], n2, rfl, t, rfl, .cons rfl .nil⟩, .inl rfl⟩, k⟩⟩
theorem cst_mk {x : Str} {i : Int} {t : Tok} (X : K.In h) (G : h.Ns mainGlobals mg) (a : PySem.W.nsIn K mainGlobals x = some (some (.int i t))) : ∃ t, mg x = some (.int i t) := ⟨t, PySem.W.mg_of X G a⟩
end
/-- all that the top has written -/
structure Top (K : PySem.W.Frag) (w : World) (mg : Str → Option Value) : Prop where
  T : Tx mg
  d_is_whole : Df K mg "is_whole" s_is_whole
  d_is_within : Df K mg "is_within" s_is_within
  d_is_listed : Df K mg "is_listed" s_is_listed
  d_is_couple : Df K mg "is_couple" s_is_couple
  d_is_kind : Df K mg "is_kind" s_is_kind
  d_is_run : Df K mg "is_run" s_is_run
  d_is_sequence : Df K mg "is_sequence" s_is_sequence
  d_is_state : Df K mg "is_state" s_is_state
  d_checked_runs : Df K mg "checked_runs" s_checked_runs
  d_checked_state : Df K mg "checked_state" s_checked_state
  d_is_digits : Df K mg "is_digits" s_is_digits
  d_number_in : Df K mg "number_in" s_number_in
  d_run_word : Df K mg "run_word" s_run_word
  d_is_run_word : Df K mg "is_run_word" s_is_run_word
  d_is_exact : Df K mg "is_exact" s_is_exact
  d_run_in : Df K mg "run_in" s_run_in
  d_words_of : Df K mg "words_of" s_words_of
  d_check_forms : Df K mg "check_forms" s_check_forms
  d_format_sequence : Df K mg "format_sequence" s_format_sequence
  d_format_state : Df K mg "format_state" s_format_state
  d_parse_sequence : Df K mg "parse_sequence" s_parse_sequence
  d_parse_state : Df K mg "parse_state" s_parse_state
  d_law_bag : Df K mg "_law_bag" s_law_bag
  d_law_stir : Df K mg "_law_stir" s_law_stir
  d_law_draw : Df K mg "_law_draw" s_law_draw
  d_law_either : Df K mg "_law_either" s_law_either
  d_law_runs : Df K mg "_law_runs" s_law_runs
  d_law_text : Df K mg "_law_text" s_law_text
  d_law_right : Df K mg "_law_right" s_law_right
theorem Top.law {P : Program} {w : World} {K : PySem.W.Frag} {mg : Str → Option Value} (Y : Top K w mg) {f : Addr} {fd : FuncData} (F : Fun K "law" "law" s_law f fd) (base : Heap) : FnC P w K mg base f fd ["script"] (sp_law K) := by
  have T := Y.T
  have g_is_whole := ok_is_whole (P := P) (w := w) (base := base) Y.d_is_whole T
  have g_is_within := ok_is_within (P := P) (w := w) (base := base) Y.d_is_within g_is_whole
  have g_is_listed := ok_is_listed (P := P) (w := w) (base := base) Y.d_is_listed T
  have g_is_couple := ok_is_couple (P := P) (w := w) (base := base) Y.d_is_couple T
  have g_is_kind := ok_is_kind (P := P) (w := w) (base := base) Y.d_is_kind T
  have g_is_run := ok_is_run (P := P) (w := w) (base := base) Y.d_is_run T g_is_couple g_is_kind g_is_within
  have g_is_state := ok_is_state (P := P) (w := w) (base := base) Y.d_is_state T g_is_couple g_is_kind g_is_whole
  have g_is_sequence := ok_is_sequence (P := P) (w := w) (base := base) Y.d_is_sequence T g_is_listed g_is_run
  have g_checked_runs := ok_checked_runs (P := P) (w := w) (base := base) Y.d_checked_runs T g_is_sequence
  have g_checked_state := ok_checked_state (P := P) (w := w) (base := base) Y.d_checked_state T g_is_state
  have g_law_bag := ok_law_bag (P := P) (w := w) (base := base) Y.d_law_bag T
  have g_law_stir := ok_law_stir (P := P) (w := w) (base := base) Y.d_law_stir T
  have g_law_draw := ok_law_draw (P := P) (w := w) (base := base) Y.d_law_draw T g_law_stir
  have g_words_of := ok_words_of (P := P) (w := w) (base := base) Y.d_words_of T
  have g_check_forms := ok_check_forms (P := P) (w := w) (base := base) Y.d_check_forms
  have g_law_either := ok_law_either (P := P) (w := w) (base := base) Y.d_law_either T g_law_draw
  have g_is_digits := ok_is_digits (P := P) (w := w) (base := base) Y.d_is_digits T
  have g_number_in := ok_number_in (P := P) (w := w) (base := base) Y.d_number_in T
  have g_run_word := ok_run_word (P := P) (w := w) (base := base) Y.d_run_word T
  have g_is_run_word := ok_is_run_word (P := P) (w := w) (base := base) Y.d_is_run_word g_is_kind g_is_digits
  have g_is_exact := ok_is_exact (P := P) (w := w) (base := base) Y.d_is_exact
  have g_run_in := ok_run_in (P := P) (w := w) (base := base) Y.d_run_in g_number_in
  have g_format_sequence := ok_format_sequence (P := P) (w := w) (base := base) Y.d_format_sequence g_checked_runs g_run_word
  have g_format_state := ok_format_state (P := P) (w := w) (base := base) Y.d_format_state g_checked_state g_run_word
  have g_parse_sequence := ok_parse_sequence (P := P) (w := w) (base := base) Y.d_parse_sequence T g_words_of g_check_forms g_is_run_word g_run_in g_is_exact g_is_sequence
  have g_parse_state := ok_parse_state (P := P) (w := w) (base := base) Y.d_parse_state T g_words_of g_check_forms g_is_run_word g_run_in g_is_exact
  have g_law_text := ok_law_text (P := P) (w := w) (base := base) Y.d_law_text T
  have g_law_runs := ok_law_runs (P := P) (w := w) (base := base) Y.d_law_runs T g_law_draw
  have g_law_right := ok_law_right (P := P) (w := w) (base := base) Y.d_law_right T g_law_text g_law_either g_format_sequence g_parse_sequence g_format_state g_parse_state
  exact fn_law F T g_law_bag g_law_draw g_law_runs g_law_right g_law_text g_format_sequence g_parse_sequence g_format_state g_parse_state
theorem all_mk {P : Program} {w : World} {K : PySem.W.Frag} {h : Heap} {mg : Str → Option Value} {fa f : Addr} {od an : Option Addr} {sl : Array (Option Value)} {oc kV dc pm cd ct : Value} (X : K.In h) (G : h.Ns mainGlobals mg) (hfa : mg "law" = some (.ref fa)) (a : PySem.W.nsIn K mainGlobals "law" = some (some (.ref f)))
    (l : K.lookup f = some ⟨oc, od, .func (PySem.W.fnOf "law" "law" (defArgs s_law) (defBody s_law) (defScope s_law) .none kV dc pm an cd ct), sl⟩) (c : PySem.W.codeIn K cd "law" = true) (k : PySem.W.keepIn K (.ref f) = true) (Y : Top K w mg) :
    ∃ fd : FuncData, (∀ (s : Shared) (v : Value), BindsTo s fd ⟨[v], []⟩ [("script", v)]) ∧ ∀ base : Heap, K.In base → base.Ns mainGlobals mg → FnC P w K mg base fa fd ["script"] (sp_law K) := by
  have e := hfa.symm.trans (PySem.W.mg_of X G a)
  cases e
  exact ⟨_, fun s v => .of_eq rfl, fun base _ _ => Y.law (fun_mk (st := s_law) l c k) base⟩
end UP
open PySem PySem.W PyProof.Rows
set_option maxHeartbeats 0 in
theorem PySem.Challenge.cw_unlikepairs_k53_sequences_and_states_as_holds : PySem.Challenge.rw_unlikepairs_k53_sequences_and_states_as.Holds := by
  w_on; o_law; k_head; (case hw => w_witness2)
  k_fill
  refine UP.walkC (l := PySem.Challenge.rw_unlikepairs_k53_sequences_and_states_as) (n := 63) (x := "script") (sp := fun w => UP.sp_law _) rfl (by decide) rfl (fun w h Y => PySem.W.kIn_of Y) ?F (fun _ _ a ns hl hS => ⟨a, ns, rfl, hS, hl, fun _ => rfl⟩)
  case F =>
    intro w mg fa h KX G hmg
    refine' UP.all_mk KX G hmg ?a ?l ?c ?k ?Y
    (case a => k_is); (case l => k_is); (case c => k_is); (case k => k_is)
    case Y =>
      constructor
      · constructor
        · refine' PySem.W.mg_none_of KX G ?z; (case z => k_is)
        · refine' PySem.W.mg_none_of KX G ?z; (case z => k_is)
        · refine' PySem.W.mg_none_of KX G ?z; (case z => k_is)
        · refine' PySem.W.mg_none_of KX G ?z; (case z => k_is)
        · refine' PySem.W.mg_none_of KX G ?z; (case z => k_is)
        · refine' PySem.W.mg_none_of KX G ?z; (case z => k_is)
        · refine' PySem.W.mg_none_of KX G ?z; (case z => k_is)
        · refine' PySem.W.mg_none_of KX G ?z; (case z => k_is)
        · refine' PySem.W.mg_none_of KX G ?z; (case z => k_is)
        · refine' PySem.W.mg_none_of KX G ?z; (case z => k_is)
        · refine' PySem.W.mg_none_of KX G ?z; (case z => k_is)
        · refine' PySem.W.mg_none_of KX G ?z; (case z => k_is)
        · refine' PySem.W.mg_none_of KX G ?z; (case z => k_is)
        · refine' PySem.W.mg_none_of KX G ?z; (case z => k_is)
        · refine' PySem.W.mg_none_of KX G ?z; (case z => k_is)
        · refine' PySem.W.mg_none_of KX G ?z; (case z => k_is)
        · refine' PySem.W.mg_none_of KX G ?z; (case z => k_is)
        · refine' PySem.W.mg_none_of KX G ?z; (case z => k_is)
        · refine' PySem.W.mg_none_of KX G ?z; (case z => k_is)
        · refine' PySem.W.mg_none_of KX G ?z; (case z => k_is)
        · refine' PySem.W.mg_none_of KX G ?z; (case z => k_is)
        · refine' PySem.W.mg_none_of KX G ?z; (case z => k_is)
        · refine' UP.cst_mk KX G ?z; (case z => k_is)
        · refine' UP.cst_mk KX G ?z; (case z => k_is)
        · refine' UP.cst_mk KX G ?z; (case z => k_is)
      · refine' UP.df_mk KX G ?a ?l ?c ?k; (case a => k_is); (case l => k_is); (case c => k_is); (case k => k_is)
      · refine' UP.df_mk KX G ?a ?l ?c ?k; (case a => k_is); (case l => k_is); (case c => k_is); (case k => k_is)
      · refine' UP.df_mk KX G ?a ?l ?c ?k; (case a => k_is); (case l => k_is); (case c => k_is); (case k => k_is)
      · refine' UP.df_mk KX G ?a ?l ?c ?k; (case a => k_is); (case l => k_is); (case c => k_is); (case k => k_is)
      · refine' UP.df_mk KX G ?a ?l ?c ?k; (case a => k_is); (case l => k_is); (case c => k_is); (case k => k_is)
      · refine' UP.df_mk KX G ?a ?l ?c ?k; (case a => k_is); (case l => k_is); (case c => k_is); (case k => k_is)
      · refine' UP.df_mk KX G ?a ?l ?c ?k; (case a => k_is); (case l => k_is); (case c => k_is); (case k => k_is)
      · refine' UP.df_mk KX G ?a ?l ?c ?k; (case a => k_is); (case l => k_is); (case c => k_is); (case k => k_is)
      · refine' UP.df_mk KX G ?a ?l ?c ?k; (case a => k_is); (case l => k_is); (case c => k_is); (case k => k_is)
      · refine' UP.df_mk KX G ?a ?l ?c ?k; (case a => k_is); (case l => k_is); (case c => k_is); (case k => k_is)
      · refine' UP.df_mk KX G ?a ?l ?c ?k; (case a => k_is); (case l => k_is); (case c => k_is); (case k => k_is)
      · refine' UP.df_mk KX G ?a ?l ?c ?k; (case a => k_is); (case l => k_is); (case c => k_is); (case k => k_is)
      · refine' UP.df_mk KX G ?a ?l ?c ?k; (case a => k_is); (case l => k_is); (case c => k_is); (case k => k_is)
      · refine' UP.df_mk KX G ?a ?l ?c ?k; (case a => k_is); (case l => k_is); (case c => k_is); (case k => k_is)
      · refine' UP.df_mk KX G ?a ?l ?c ?k; (case a => k_is); (case l => k_is); (case c => k_is); (case k => k_is)
      · refine' UP.df_mk KX G ?a ?l ?c ?k; (case a => k_is); (case l => k_is); (case c => k_is); (case k => k_is)
      · refine' UP.df_mk KX G ?a ?l ?c ?k; (case a => k_is); (case l => k_is); (case c => k_is); (case k => k_is)
      · refine' UP.df_mk KX G ?a ?l ?c ?k; (case a => k_is); (case l => k_is); (case c => k_is); (case k => k_is)
      · refine' UP.df_mk KX G ?a ?l ?c ?k; (case a => k_is); (case l => k_is); (case c => k_is); (case k => k_is)
      · refine' UP.df_mk KX G ?a ?l ?c ?k; (case a => k_is); (case l => k_is); (case c => k_is); (case k => k_is)
      · refine' UP.df_mk KX G ?a ?l ?c ?k; (case a => k_is); (case l => k_is); (case c => k_is); (case k => k_is)
      · refine' UP.df_mk KX G ?a ?l ?c ?k; (case a => k_is); (case l => k_is); (case c => k_is); (case k => k_is)
      · refine' UP.df_mk KX G ?a ?l ?c ?k; (case a => k_is); (case l => k_is); (case c => k_is); (case k => k_is)
      · refine' UP.df_mk KX G ?a ?l ?c ?k; (case a => k_is); (case l => k_is); (case c => k_is); (case k => k_is)
      · refine' UP.df_mk KX G ?a ?l ?c ?k; (case a => k_is); (case l => k_is); (case c => k_is); (case k => k_is)
      · refine' UP.df_mk KX G ?a ?l ?c ?k; (case a => k_is); (case l => k_is); (case c => k_is); (case k => k_is)
      · refine' UP.df_mk KX G ?a ?l ?c ?k; (case a => k_is); (case l => k_is); (case c => k_is); (case k => k_is)
      · refine' UP.df_mk KX G ?a ?l ?c ?k; (case a => k_is); (case l => k_is); (case c => k_is); (case k => k_is)
      · refine' UP.df_mk KX G ?a ?l ?c ?k; (case a => k_is); (case l => k_is); (case c => k_is); (case k => k_is)
