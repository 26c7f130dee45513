import PyProof.Rows.All
import Wide.All
import OpenK.AllK
import Wide.FinOn
import HandS.ForMost
import HandS.Wide
import HandS.IsInst
import HandS.Defaults
import HandS.Codes
import HandS.Style
import PyProof.ReprRoads
import PyProof.ReprLen
import HandS.Zip
import HandS.NoneIn
import HandS.TupAny
import HandS.SortInts
import HandS.TupSets
import HandS.SetFor
import KE.KeyNested
import PyProof.DictRoadsH
import PySem.Challenge.RW_unlikepairs_k28_shortest_meetings_by_sea
set_option Elab.async false
set_option linter.all false
set_option maxRecDepth 100000
set_option maxHeartbeats 4000000
namespace UP
open PySem PySem.Spec PyProof.Rows L2

/-! ### a def that keeps a promise, by its name -/
section
variable (P : Program) (w : World) (K : PySem.W.Frag) (mg : Str → Option Value) (base : Heap)
def Has (k : Nat) (x : Str) (ps : List Str) (sp : Sp) : Prop :=
  ∃ f fd, mg x = some (.ref f) ∧ PySem.W.keepIn K (.ref f) = true ∧ Binds K fd ps [] ∧ FnOk P w K mg base CX0 k f fd ps sp
def Df (x : Str) (st : Stmt) : Prop := ∃ f fd, mg x = some (.ref f) ∧ Fun K x x st f fd
end
theorem Df.of {K : PySem.W.Frag} {mg : Str → Option Value} {x : Str} {st : Stmt} {f : Addr} {fd : FuncData} (g : mg x = some (.ref f)) (F : Fun K x x st f fd) : Df K mg x st := ⟨f, fd, g, F⟩
section
variable {P : Program} {w : World} {K : PySem.W.Frag} {mg : Str → Option Value} {base : Heap}
theorem has_of {x : Str} {st : Stmt} {ps N : List Str} {k : Nat} {sp : Sp} (D : Df K mg x st) (S : FnScope N ps (defScope st))
    (hb : ∀ (kV doc pm : Value) (an : Option Addr) (cdv ct : Value) (us : List Value), us.length = ps.length → bindArgs (PySem.W.fnOf x x (defArgs st) (defBody st) (defScope st) .none kV doc pm an cdv ct) ⟨us, []⟩ = pure (ps.zip us))
    (len : ∀ vs H Q E, sp vs H Q E → vs.length = ps.length)
    (body : ∀ (f : Addr) (cdv : Value) (A : Around) (outer : List Env) (s : Shared) (H : Hp) (vs : List V) (Q : VK) (E : XK), Room k (A.deeper (envOfC x (defScope st) s.heap.objs.size f cdv)) → sp vs H Q E →
      ∃ t, PSs (cxOf CX0 P w K mg base N x (defScope st) f cdv A outer s H E).nox (defBody st) t ∧ t { nx := fun _ H' => Q .non H', rt := Q } (start N vs) H) :
    Has P w K mg base (k + 1) x ps sp := by
  obtain ⟨f, fd, g, F⟩ := D
  exact ⟨f, fd, g, F.kp, F.binds hb, F.ok S len fun cdv A outer s H vs Q E hr h => body f cdv A outer s H vs Q E hr h⟩
theorem Has.weak {x : Str} {ps : List Str} {k : Nat} {sp sp' : Sp} (h : Has P w K mg base k x ps sp) (e : sp = sp') : Has P w K mg base k x ps sp' := e ▸ h
end
section
variable {X : Cx}
theorem pe_callH {k : Nat} {x : Str} {ps : List Str} {sp : Sp} {p pos : Pos} {e : Expr} {es : List Expr} {t : TA} (G : Has X.prog X.w X.K X.mg X.base k x ps sp) (hr : Room k X.A) (hg : Gl X x) (ha : PA X (e :: es) t)
    (hdb : (x == ("__debug__" : Str)) = false := by decide) (he : starEach (e :: es) X.env = (false, eval e X.env) :: starEach es X.env := by rfl) (hpl : (backTo pos (starEach es X.env)).any (·.1) = false := by rfl) :
    PE X (.Call (.Name x p) (e :: es) [] pos) (tCall sp [] E0 t) := by
  obtain ⟨f, fd, g, kp, b, F⟩ := G
  exact pe_call F hr hg g kp b .nil pass0 ha hdb he hpl
theorem pe_glI {x : Str} {i : Int} {pos : Pos} (h : ∃ t, X.mg x = some (.int i t)) (hg : Gl X x) (hd : (x == ("__debug__" : Str)) = false := by decide) : PE X (.Name x pos) (tC (.int i)) := by
  obtain ⟨t, h⟩ := h
  exact pe_glob hg h ⟨t, rfl⟩ hd
end

/-! ### heaps -/
theorem same_upd {H : Hp} {p : Addr} {o : HO} (h : H p = none) : Same H (upd H p o) := fun b x e => by
  rw [upd_ne (ne_of_none e h)]
  exact e
/-- all but the object at sp is as it was -/
def But (sp : Addr) (H H' : Hp) : Prop := ∀ b o, b ≠ sp → H b = some o → H' b = some o
theorem Same.but {sp : Addr} {H H' : Hp} (h : Same H H') : But sp H H' := fun b o _ e => h b o e
theorem But.trans {sp : Addr} {H H1 H2 : Hp} (a : But sp H H1) (b : But sp H1 H2) : But sp H H2 := fun c o n e => b c o n (a c o n e)
theorem But.refl {sp : Addr} {H : Hp} : But sp H H := fun _ _ _ e => e
theorem but_upd {sp : Addr} {H : Hp} {o : HO} : But sp H (upd H sp o) := fun b x n e => by
  rw [upd_ne n]
  exact e
theorem small {n : Nat} (h : n ≤ 1000000) : n < sizeLine := Nat.lt_of_le_of_lt h (by decide)
theorem smallE {n : Nat} (h : n ≤ 1000000) : n ≤ sizeLine := Nat.le_of_lt (small h)

/-! ### runs and states -/
abbrev Run := Str × Int
def RunV (H : Hp) (v : V) (r : Run) : Prop := ∃ t, v = .ref t ∧ H t = some (.tup [.str r.1, .int r.2])
def Runs (H : Hp) (a : Addr) (rs : List Run) : Prop := ∃ xs, H a = some (.lst xs) ∧ Paired (RunV H) xs rs
def StV (H : Hp) (v : V) : Option Run → Prop
  | none => v = .non
  | some r => RunV H v r
theorem RunV.same {H H' : Hp} {v : V} {r : Run} (s : Same H H') (h : RunV H v r) : RunV H' v r := by
  obtain ⟨t, e, h⟩ := h
  exact ⟨t, e, s _ _ h⟩
theorem Paired.len {α β : Type} {F : α → β → Prop} : ∀ {l₁ : List α} {l₂ : List β}, Paired F l₁ l₂ → l₁.length = l₂.length
  | _, _, .nil => rfl
  | _, _, .cons _ t => congrArg Nat.succ (Paired.len t)
theorem Paired.at {α β : Type} {F : α → β → Prop} : ∀ {l₁ : List α} {l₂ : List β} {i : Nat} {x : α}, Paired F l₁ l₂ → l₁[i]? = some x → ∃ y, l₂[i]? = some y ∧ F x y
  | _, _, _, _, .nil, h => by simp at h
  | _, _, 0, _, .cons h _, e => by
    simp only [List.getElem?_cons_zero, Option.some.injEq] at e
    subst e
    exact ⟨_, by simp, h⟩
  | _, _, i + 1, _, .cons _ t, e => by
    simp only [List.getElem?_cons_succ] at e ⊢
    exact Paired.at t e
theorem Paired.at' {α β : Type} {F : α → β → Prop} : ∀ {l₁ : List α} {l₂ : List β} {i : Nat} {y : β}, Paired F l₁ l₂ → l₂[i]? = some y → ∃ x, l₁[i]? = some x ∧ F x y
  | _, _, _, _, .nil, h => by simp at h
  | _, _, 0, _, .cons h _, e => by
    simp only [List.getElem?_cons_zero, Option.some.injEq] at e
    subst e
    exact ⟨_, by simp, h⟩
  | _, _, i + 1, _, .cons _ t, e => by
    simp only [List.getElem?_cons_succ] at e ⊢
    exact Paired.at' t e
theorem Paired.imp {α β : Type} {F G : α → β → Prop} (f : ∀ a b, F a b → G a b) : ∀ {l₁ : List α} {l₂ : List β}, Paired F l₁ l₂ → Paired G l₁ l₂
  | _, _, .nil => .nil
  | _, _, .cons h t => .cons (f _ _ h) (Paired.imp f t)
theorem Paired.app {α β : Type} {F : α → β → Prop} : ∀ {l₁ m₁ : List α} {l₂ m₂ : List β}, Paired F l₁ l₂ → Paired F m₁ m₂ → Paired F (l₁ ++ m₁) (l₂ ++ m₂)
  | _, _, _, _, .nil, h => h
  | _, _, _, _, .cons h t, k => .cons h (Paired.app t k)
theorem Paired.dropp {α β : Type} {F : α → β → Prop} : ∀ {l₁ : List α} {l₂ : List β} (n : Nat), Paired F l₁ l₂ → Paired F (l₁.drop n) (l₂.drop n)
  | _, _, 0, h => h
  | _, _, n + 1, .nil => .nil
  | _, _, n + 1, .cons _ t => by
    simp only [List.drop_succ_cons]
    exact Paired.dropp n t
theorem Paired.takep {α β : Type} {F : α → β → Prop} : ∀ {l₁ : List α} {l₂ : List β} (n : Nat), Paired F l₁ l₂ → Paired F (l₁.take n) (l₂.take n)
  | _, _, 0, h => by simp only [List.take_zero]; exact .nil
  | _, _, n + 1, .nil => .nil
  | _, _, n + 1, .cons h t => by
    simp only [List.take_succ_cons]
    exact .cons h (Paired.takep n t)
theorem Runs.same {H H' : Hp} {a : Addr} {rs : List Run} (s : Same H H') (h : Runs H a rs) : Runs H' a rs := by
  obtain ⟨xs, e, p⟩ := h
  exact ⟨xs, s _ _ e, Paired.imp (fun _ _ => RunV.same s) p⟩
theorem StV.same {H H' : Hp} {v : V} {st : Option Run} (s : Same H H') (h : StV H v st) : StV H' v st := by
  cases st with
  | none => exact h
  | some r => exact RunV.same s h
/-- the spring: a list of three ints -/
def Spr (H : Hp) (sp : Addr) : Prop := ∃ d s c : Int, H sp = some (.lst [.int d, .int s, .int c]) ∧ 0 ≤ d ∧ d.natAbs < 2 ^ 20000 ∧ 0 ≤ s ∧ s < 2305843009213693951
theorem RunV.but {H H' : Hp} {sp : Addr} {v : V} {r : Run} (z : Spr H sp) (s : But sp H H') (h : RunV H v r) : RunV H' v r := by
  obtain ⟨t, e, h⟩ := h
  obtain ⟨_, _, _, hs, _⟩ := z
  exact ⟨t, e, s _ _ (ne_of h hs (by intro q; cases q)) h⟩
theorem Runs.ne {H : Hp} {sp a : Addr} {rs : List Run} (z : Spr H sp) (h : Runs H a rs) : a ≠ sp := by
  obtain ⟨xs, e, p⟩ := h
  obtain ⟨d, s, c, hs, _⟩ := z
  refine ne_of e hs fun q => ?_
  have q := HO.lst.inj q
  subst q
  cases p with
  | cons h _ =>
    obtain ⟨t, e, _⟩ := h
    cases e
theorem Runs.but {H H' : Hp} {sp a : Addr} {rs : List Run} (z : Spr H sp) (s : But sp H H') (h : Runs H a rs) : Runs H' a rs := by
  have n := Runs.ne z h
  obtain ⟨xs, e, p⟩ := h
  exact ⟨xs, s _ _ n e, Paired.imp (fun _ _ => RunV.but z s) p⟩
theorem StV.but {H H' : Hp} {sp : Addr} {v : V} {st : Option Run} (z : Spr H sp) (s : But sp H H') (h : StV H v st) : StV H' v st := by
  cases st with
  | none => exact h
  | some r => exact RunV.but z s h
theorem Spr.same {H H' : Hp} {sp : Addr} (z : Spr H sp) (s : Same H H') : Spr H' sp := by
  obtain ⟨d, e, c, hs, r⟩ := z
  exact ⟨d, e, c, s _ _ hs, r⟩
def KindOk (s : Str) : Prop := 1 ≤ s.length ∧ s.length ≤ 8 ∧ ∀ c ∈ s.cps.toList, 97 ≤ c ∧ c ≤ 122
def RunOk (r : Run) : Prop := KindOk r.1 ∧ 1 ≤ r.2 ∧ r.2 ≤ 1000000000000000000000000000000
def Alt (rs : List Run) : Prop := ∀ (i : Nat) (x y : Run), rs[i]? = some x → rs[i + 1]? = some y → x.1 ≠ y.1
def SeqOk (rs : List Run) : Prop := rs.length ≤ 400 ∧ (∀ r ∈ rs, RunOk r) ∧ Alt rs
end UP

set_option Elab.async false
set_option linter.all false
set_option maxRecDepth 100000
set_option maxHeartbeats 4000000
namespace UP
open PySem PySem.Spec PyProof.Rows L2
/-! ### repr of plain data, where no other repr is under way -/
def rRepr (K : PySem.W.Frag) : List V → Hp → VK → Prop := fun xs H Q => ∃ (a : Addr) (d : PyData), xs = [.ref a] ∧ Dp K H (.ref a) d ∧ d.showable = true ∧ SeqAt.shaped d = true ∧ d.shown.length ≤ sizeLine ∧ Q (.str d.shown) H
theorem call_reprD {X : Cx} (hg : X.A.guards = some []) (hu : X.A.units + 70 < cLine) : CallR X (.builtin "repr") (rRepr X.K) := by
  intro pins s σ H xs us Q I r h
  obtain ⟨a, d, rfl, dp, sh, sp, sz, q⟩ := h
  obtain ⟨u, rfl, ru⟩ := vals1 r
  cases (show u = Value.ref a from ru)
  obtain ⟨as, rd⟩ := Dp.reads I d (.ref a) (.ref a) dp rfl
  have dd := SeqAt.depth_of_shaped sp
  refine repr_of_reads' rd sh (PyData.noDict_hsm (PyData.hasDict_of_canLay d (SeqAt.canLay_of_shaped sp))) hg (by omega) (fun _ _ e => e) (fun h' u tk hk => ?_) sz
  exact ⟨.str d.shown, H, I.kept (t' := tk) hk, ⟨u, rfl⟩, q⟩
/-! ### the law's own call, around it nothing -/
structure FnC (P : Program) (w : World) (K : PySem.W.Frag) (mg : Str → Option Value) (base : Heap) (f : Addr) (fd : FuncData) (ps : List Str) (sp : Sp) : Prop where
  go : ∀ (out : List Env) (s : Shared) (H : Hp) (args : Args) (us : List Value) (vs : List V) (Q : VK) (E : XK), Env0 P w K mg base callerA out s H → BindsTo s fd args (ps.zip us) → Vals vs us → sp vs H Q E →
    codeAny (model P w) callerA (.call (.ref f) args) (CR CX0 out P w H s Q E) s
theorem callerA_room : Room 8 callerA := ⟨rfl, by decide, by decide⟩
section
variable {P : Program} {w : World} {K : PySem.W.Frag} {mg : Str → Option Value} {base : Heap}
theorem fnC_of {x : Str} {st : Stmt} {f : Addr} {fd : FuncData} {ps N : List Str} {sp : Sp} (F : Fun K x x st f fd) (S : FnScope N ps (defScope st)) (len : ∀ vs H Q E, sp vs H Q E → vs.length = ps.length)
    (body : ∀ (cdv : Value) (out : List Env) (s : Shared) (H : Hp) (vs : List V) (Q : VK) (E : XK), Room 7 (callerA.deeper (envOfC x (defScope st) s.heap.objs.size f cdv)) → sp vs H Q E →
      ∃ t, PSs (cxOf CX0 P w K mg base N x (defScope st) f cdv callerA out s H E).nox (defBody st) t ∧ t { nx := fun _ H' => Q .non H', rt := Q } (start N vs) H) : FnC P w K mg base f fd ps sp := by
  obtain ⟨oc, od, kV, doc, pm, an, cdv, ct, osl, rfl, lk, hcd⟩ := F.ex
  refine ⟨fun out s H args us vs Q E e0 hb rv hsp => ?_⟩
  have inS : K.In s.heap := e0.mod.kin.keeps fun b o z => (e0.bs b o z).1
  have noL : s.heap.NoLimit := e0.mod.nolimit.keeps fun b o z => (e0.bs b o z).1
  have kinds : ∀ y ∈ ps.zip us, (defScope st).names.lookup y.1 = some .local ∨ ((defScope st).names.lookup y.1 = some .cell ∧ ((cellsFrom (s.heap.objs.size + 1) (defScope st).names []).lookup y.1).isSome = true) := by
    intro y hy
    rcases S.par y.1 (List.of_mem_zip (a := y.1) (b := y.2) hy).1 with z | z
    · exact Or.inl z
    · exact Or.inr ⟨z, PySem.W.cellsFrom_some _ _ _ (Or.inl z)⟩
  refine codeAny_call_function callerA_room.depth (inS _ _ lk) rfl S.co S.gen rfl (PySem.W.codeRec_of inS hcd) (hb _ _ _ _ ?_)
  refine wpAny_newFunctionEnv_cells S.kind kinds fun env he s1 inC => ?_
  subst he
  refine ⟨noL.keeps inC.toInCall.keep, codeAny_func ?_⟩
  obtain ⟨t, ht0, hq⟩ := body cdv out s H vs Q E (callerA_room.deeper _) hsp
  have ht := PSs.nox ht0
  have I0 : Inv (cxOf CX0 P w K mg base N x (defScope st) f cdv callerA out s H E) [] (start N vs) H s1 := inv_start S rfl e0 (len _ _ _ _ hsp) rv inC
  refine wpAny_mono (ht.run [] s1 (start N vs) H _ I0 hq) (fun fl s2 h2 => ?_) fun _ _ z => z
  cases fl with
  | next =>
    obtain ⟨σ2, H2, J, q2⟩ := h2
    exact ⟨V.non, H2, J.os, J.bare, J.base, J.hok, rfl, q2⟩
  | ret u =>
    obtain ⟨v, σ2, H2, J, rv2, q2⟩ := h2
    exact ⟨v, H2, J.os, J.bare, J.base, J.hok, rv2, q2⟩
  | brk =>
    obtain ⟨_, _, _, z⟩ := h2
    exact z.elim
  | cont =>
    obtain ⟨_, _, _, z⟩ := h2
    exact z.elim
end
/-- the heap that holds the script alone, locked -/
def oneH (a : Addr) (o : Obj) (xs : List V) : Hp := fun b => if b = a then some (.frz o (.lst xs)) else none
theorem run_law {P : Program} {w : World} {K : PySem.W.Frag} {mg mb : Str → Option Value} {fa a : Addr} {fd : FuncData} {x : Str} {sp : Sp} {s : Shared} {vs : List Value} {ns : List Int}
    (kx : K.In s.heap) (gns : s.heap.Ns mainGlobals mg) (bns : s.heap.Ns builtinsNs mb) (bb : ∀ y : Str, y ≠ "__name__" → mb y = bootBuiltins y) (nl : s.heap.NoLimit) (gens : s.gens = #[])
    (ob : s.heap.get? a = some { cls := .type "list", data := .seq vs.toArray }) (hin : IntsAre vs ns) (len : ns.length ≤ sizeLine) (F : ∀ base : Heap, K.In base → base.Ns mainGlobals mg → FnC P w K mg base fa fd [x] sp)
    (bind : ∀ (s : Shared) (u : Value), BindsTo s fd ⟨[u], []⟩ [(x, u)]) (hsp : ∀ H : Hp, SqL K H a (ns.map V.int) → sp [.ref a] H (fun v _ => v = .bl true) fun _ _ _ => False) :
    codeAny (model P w) callerA (.call (.ref fa) ⟨[.ref a], []⟩) (fun r s' => r = .ok (.ret (.bool true)) ∧ OldK s.heap s'.heap ∧ s'.os = s.os ∧ AllBare s'.gens) s := by
  have rel := vals_ints hin
  have step : ∀ H : Hp, (H = (fun _ => none) ∨ (H = oneH a { cls := .type "list", data := .seq vs.toArray } (ns.map V.int) ∧ K.lookup a = none)) → SqL K H a (ns.map V.int) → HOk P w H s.heap →
      codeAny (model P w) callerA (.call (.ref fa) ⟨[.ref a], []⟩) (fun r s' => r = .ok (.ret (.bool true)) ∧ OldK s.heap s'.heap ∧ s'.os = s.os ∧ AllBare s'.gens) s := by
    intro H hH hS hok
    have only : ∀ b u, H b = some u → b = a ∧ u = .frz { cls := .type "list", data := .seq vs.toArray } (.lst (ns.map V.int)) ∧ K.lookup a = none := by
      intro b u e
      rcases hH with z | ⟨z, z2⟩
      · rw [z] at e
        cases e
      · rw [z] at e
        by_cases hb : b = a
        · have e := (if_pos hb).symm.trans e
          cases e
          exact ⟨hb, rfl, z2⟩
        · have e := (if_neg hb).symm.trans e
          cases e
    have free : ∀ {b : Addr} {o : Obj}, s.heap.get? b = some o → (b = a → False) → (hidT s.heap H).get? b = some o := by
      intro b o e n
      refine hidT_get e ?_
      cases q : H b with
      | none => rfl
      | some u => exact (n (only b u q).1).elim
    have nss : ∀ {b : Addr} {m : Str → Option Value}, s.heap.Ns b m → (hidT s.heap H).Ns b m := by
      intro b m ⟨o, es, ep, e, d, r⟩
      refine ⟨o, es, ep, free e fun z => ?_, d, r⟩
      subst z
      rw [ob] at e
      cases e
      cases d
    have kb : K.In (hidT s.heap H) := by
      intro b o e
      refine hidT_get (kx b o e) ?_
      cases q : H b with
      | none => rfl
      | some u =>
        obtain ⟨z1, _, z2⟩ := only b u q
        rw [z1, z2] at e
        cases e
    have md : Mod K mg (hidT s.heap H) := ⟨kb, nss gns, ⟨mb, nss bns, bb⟩, by obtain ⟨mc, h1, h2⟩ := nl; exact ⟨mc, nss h1, h2⟩⟩
    have env : Env0 P w K mg (hidT s.heap H) callerA [] s H := ⟨rfl, md, fun b o e => of_hidT e, Nat.le_of_eq (hidT_size _ _), trivial, (fun b hb => by cases hb), hok, .of_eq gens⟩
    refine codeAny_mono ((F _ kb (nss gns)).go [] s H ⟨[.ref a], []⟩ [.ref a] [.ref a] _ _ env (bind s (.ref a)) (.cons rfl .nil) (hsp H hS)) fun r s' h => ?_
    cases r with
    | error e => exact h.elim
    | ok fl =>
      cases fl with
      | next => exact h.elim
      | brk => exact h.elim
      | cont => exact h.elim
      | ret u =>
        obtain ⟨v, H', o1, o2, un, hok', rv, q⟩ := h
        have q : v = .bl true := q
        subst q
        cases (show u = Value.bool true from rv)
        refine ⟨rfl, OldK.of_keep fun b o e => ?_, o1, o2⟩
        cases q : H b with
        | none => exact un.keep b o e q (fun z => by cases z) (fun z => by cases z)
        | some u =>
          obtain ⟨_, z, _⟩ := only b u q
          subst z
          obtain ⟨e1, _⟩ := hok b _ q
          obtain ⟨e2, _⟩ := hok' b _ (un.frzs b _ _ q)
          rw [e] at e1
          cases e1
          exact e2
  cases hk : K.lookup a with
  | some o =>
    have e := kx a o hk
    rw [ob] at e
    cases e
    refine step (fun _ => none) (.inl rfl) (.inr ⟨_, vs.toArray, _, hk, rfl, rfl, rfl, ?_, by simpa using rel⟩) fun b u z => by cases z
    rw [List.size_toArray, hin.length]
    exact len
  | none =>
    have at_a : oneH a { cls := .type "list", data := .seq vs.toArray } (ns.map V.int) a = some (.frz { cls := .type "list", data := .seq vs.toArray } (.lst (ns.map V.int))) := if_pos rfl
    refine step _ (.inr ⟨rfl, hk⟩) (.inl (.inr ⟨_, at_a⟩)) fun b u z => ?_
    by_cases hb : b = a
    · subst hb
      rw [at_a] at z
      cases z
      exact ⟨ob, by rw [List.length_map]; exact len, vs, _, rel, ob⟩
    · have z := (if_neg hb).symm.trans z
      cases z
theorem walkC {l : PySem.W.OpenLaw} {n : Nat} {q : Program} {loose : List Str} {XP : (Str → Option Value) → Heap → Prop} {YP : World → Heap → Prop} {d : DefRec} {K : Params → PySem.W.Frag} {sp : World → Sp} {x : Str}
    (hn : l.most = some n) (n2 : n ≤ sizeLine) (df : d.params.defaults = []) (hY : ∀ (w : World) (h : Heap), YP w h → (K w.params).In h)
    (F : ∀ (w : World) (mg : Str → Option Value) (fa : Addr) (h : Heap), (K w.params).In h → h.Ns mainGlobals mg → mg d.name = some (.ref fa) →
      ∃ fd : FuncData, (∀ (s : Shared) (u : Value), BindsTo s fd ⟨[u], []⟩ [(x, u)]) ∧ ∀ base : Heap, (K w.params).In base → base.Ns mainGlobals mg → FnC l.prog w (K w.params) mg base fa fd [x] (sp w))
    (hsp : ∀ (w : World) (H : Hp) (a : Addr) (ns : List Int), ns.length ≤ n → SqL (K w.params) H a (ns.map V.int) → sp w [.ref a] H (fun v _ => v = .bl true) fun _ _ _ => False) :
    PySem.W.WalkO q loose XP YP l.row.toRowW d [] (fun f vs => PySem.call f vs) := by
  refine Att.attach_call hn df fun w s₀ s mg mb fa o pm cd doc a vs ns G Y ho hd hcd hmg hobj hints hlen hg => ?_
  have kx := hY w _ Y
  obtain ⟨fd, hb, hF⟩ := F w mg fa _ kx G.T.g hmg
  exact run_law kx G.T.g G.T.b G.T.builtins G.T.nolimit hg hobj hints (Nat.le_trans hlen n2) hF hb fun H hS => hsp w H a ns hlen hS
end UP

set_option Elab.async false
set_option linter.all false
set_option maxRecDepth 100000
set_option maxHeartbeats 4000000
namespace UP
open PySem PySem.Spec PyProof.Rows L2
/-! ### lists or tuples -/
def Sq2 (H : Hp) (a : Addr) (xs : List V) : Prop := H a = some (.lst xs) ∨ H a = some (.tup xs)
theorem Sq2.same {H H' : Hp} {a : Addr} {xs : List V} (s : Same H H') (h : Sq2 H a xs) : Sq2 H' a xs := h.elim (fun z => .inl (s _ _ z)) (fun z => .inr (s _ _ z))
/-- a walk over the items xs, from the heap H on -/
structure Wk (J : It) (H : Hp) (xs : List V) : Prop where
  go : ∀ i H', Same H H' → i < xs.length → J.go i H'
  stop : ∀ H', Same H H' → J.stop xs.length H'
  yld : ∀ i x H' H'', Same H H' → J.yld i H' x H'' → H'' = H' ∧ xs[i]? = some x
theorem wk_list {K : PySem.W.Frag} {H : Hp} {a : Addr} {xs : List V} (h : H a = some (.lst xs)) : Wk (Itl K a) H xs :=
  ⟨fun i H' s hi => ⟨xs, xs[i], .of (s _ _ h), List.getElem?_eq_getElem hi⟩, fun H' s => ⟨xs, .of (s _ _ h), Nat.le_refl _⟩, fun i x H' H'' s y => ⟨y.1, y.2 xs (.of (s _ _ h))⟩⟩
theorem wk_tup {K : PySem.W.Frag} {H : Hp} {a : Addr} {xs : List V} (h : H a = some (.tup xs)) : Wk (Itt K a) H xs :=
  ⟨fun i H' s hi => ⟨xs, xs[i], .of (s _ _ h), List.getElem?_eq_getElem hi⟩, fun H' s => ⟨xs, .of (s _ _ h), Nat.le_refl _⟩, fun i x H' H'' s y => ⟨y.1, y.2 xs (.of (s _ _ h))⟩⟩
def iSeqV (i : Nat) : TI := fun σ H R => ∃ a xs, σ[i]? = some (some (.ref a)) ∧ Sq2 H a xs ∧ ∀ J, Wk J H xs → R J H
section
variable {X : Cx}
theorem pi_seqV (i : Nat) {x : Str} {pos : Pos} {tg : Expr} (hN : X.N[i]? = some x := by rfl) (hv : Vis X.env.scope x := by first | exact Or.inl rfl | exact Or.inr (Or.inl rfl) | exact Or.inr (Or.inr rfl)) (hd : (x == ("__debug__" : Str)) = false := by decide)
    (hc : (x == ("__classdict__" : Str)) = false := by decide) : PI X tg (.Name x pos) (iSeqV i) := by
  refine ⟨fun pins s σ H R I hw => ?_⟩
  obtain ⟨a, xs, e, h, k⟩ := hw
  rcases h with h | h
  · exact (pi_list (pe_var hN hv hd hc)).run pins s σ H R I ⟨_, e, a, rfl, ⟨xs, .of h⟩, k _ (wk_list h)⟩
  · exact (pi_tup (pe_var hN hv hd hc)).run pins s σ H R I ⟨_, e, a, rfl, ⟨xs, .of h⟩, k _ (wk_tup h)⟩
def gAny (n : Nat) (t : TGs) : TG := fun v σ H Q => ∃ a xs, v = .ref a ∧ Sq2 H a xs ∧ xs.length = n ∧ t xs σ H Q
theorem pg_any {es : List Expr} {k n : Nat} {t : TGs} {pos : Pos} (hc : X.calm = true) (h : PGs X es t) (hn : (assignEach es X.env).length = n := by rfl) (hst : (assignEach es X.env).findIdx? (fun z => z.1) = none := by rfl) : PG X (.Tuple es k pos) (gAny n t) := by
  refine ⟨fun pins s σ H v u Q I r hw => ?_⟩
  obtain ⟨a, xs, e, hx, hl, hw⟩ := hw
  rcases hx with z | z
  · exact (pg_unl hc h hn hst).run pins s σ H v u Q I r ⟨a, xs, e, .of z, hl, hw⟩
  · exact (pg_tup hc h hn hst).run pins s σ H v u Q I r ⟨a, xs, e, .of z, hl, hw⟩
/-- zip(x, x[1:]) -/
structure WkZ (J : It) (H : Hp) (xs : List V) : Prop where
  go : ∀ i H', Same H H' → i + 1 < xs.length → J.go i H'
  stop : ∀ H', Same H H' → J.stop (xs.length - 1) H'
  yld : ∀ i x H' H'', Same H H' → J.yld i H' x H'' → ∃ T x1 x2, x = .ref T ∧ H' T = none ∧ H'' = upd H' T (.tup [x1, x2]) ∧ xs[i]? = some x1 ∧ (i + 1 < xs.length → xs[i + 1]? = some x2)
def iZip1 (i : Nat) : TI := fun σ H R => ∃ a xs, σ[i]? = some (some (.ref a)) ∧ Sq2 H a xs ∧ ∀ J H', Same H H' → WkZ J H' xs → R J H'
theorem cutt_one (xs : List V) : cutV xs (some 1) none = xs.drop 1 := by
  have e : HT.sIx xs.length 0 (some 1) = min 1 xs.length := HT.sIx_nat xs.length 0 1
  unfold cutV
  rw [e, HT.sIx_none]
  cases xs with
  | nil => rfl
  | cons x r =>
    have e1 : min 1 (x :: r).length = 1 := by simp only [List.length_cons]; omega
    rw [e1]
    simp
theorem pi_zip1 {i : Nat} {tg it : Expr} {tl th : TO} (h : PI X tg it (RZ.iZipA X.K (tCons (tVar i) (tCons (tSl (fun x lo hi H Q => rSlL X.K x lo hi H Q ∨ rSlA X.K x lo hi H Q) (tVar i) tl th) tNil))))
    (h1 : ∀ (σ : L2.St) (H : Hp) (Q : Option Int → Hp → Prop), Q (some 1) H → tl σ H Q) (h2 : ∀ (σ : L2.St) (H : Hp) (Q : Option Int → Hp → Prop), Q none H → th σ H Q) : PI X tg it (iZip1 i) := by
  refine ⟨fun pins s σ H R I hw => h.run pins s σ H R I ?_⟩
  obtain ⟨a, xs, e, hx, k⟩ := hw
  refine ⟨_, e, _, e, h1 σ H _ (h2 σ H _ ?_)⟩
  have gn : ∀ j : Nat, (xs.drop 1)[j]? = xs[j + 1]? := fun j => by rw [List.getElem?_drop, Nat.add_comm 1 j]
  rcases hx with hx | hx
  · refine .inl ⟨a, xs, rfl, .of hx, fun c nc => ?_⟩
    have sc : Same H (upd H c (.lst (cutV xs (some 1) none))) := fun b o z => by rw [upd_ne (ne_of_none z nc)]; exact z
    have hc : (upd H c (.lst (cutV xs (some 1) none))) c = some (.lst (xs.drop 1)) := by rw [upd_same, cutt_one]
    refine ⟨a, c, xs, xs.drop 1, rfl, .inl ⟨.of (sc _ _ hx), .of hc, k _ _ sc ⟨fun j H' sj hj => ?_, fun H' sj => ?_, fun j x H' H'' sj y => ?_⟩⟩⟩
    · exact ⟨xs, xs.drop 1, xs[j], xs[j + 1], .of (sj _ _ (sc _ _ hx)), .of (sj _ _ hc), List.getElem?_eq_getElem (by omega), by rw [gn]; exact List.getElem?_eq_getElem hj⟩
    · exact ⟨xs, xs.drop 1, .of (sj _ _ (sc _ _ hx)), .of (sj _ _ hc), .inr (by rw [List.length_drop]; exact Nat.le_refl _)⟩
    · obtain ⟨T, x1, x2, e1, e2, e3, f1, f2⟩ := y
      exact ⟨T, x1, x2, e1, e2, e3, f1 xs (.of (sj _ _ (sc _ _ hx))), fun _ => by rw [← gn]; exact f2 _ (.of (sj _ _ hc))⟩
  · refine .inr ⟨a, xs, rfl, .of hx, fun z => ?_, fun z c nc => ?_⟩
    · have lz : xs.length = 0 := by
        have z1 := z.1
        rw [show HT.sIx xs.length 0 (some 1) = min 1 xs.length from HT.sIx_nat xs.length 0 1] at z1
        omega
      refine ⟨a, a, xs, xs, rfl, .inr ⟨.of hx, .of hx, k _ _ (Same.refl _) ⟨fun j H' sj hj => by omega, fun H' sj => ⟨xs, xs, .of (sj _ _ hx), .of (sj _ _ hx), .inl (by omega)⟩, fun j x H' H'' sj y => ?_⟩⟩⟩
      obtain ⟨T, x1, x2, e1, e2, e3, f1, f2⟩ := y
      exact ⟨T, x1, x2, e1, e2, e3, f1 xs (.of (sj _ _ hx)), fun hj => by omega⟩
    · have sc : Same H (upd H c (.tup (cutV xs (some 1) none))) := fun b o z => by rw [upd_ne (ne_of_none z nc)]; exact z
      have hc : (upd H c (.tup (cutV xs (some 1) none))) c = some (.tup (xs.drop 1)) := by rw [upd_same, cutt_one]
      refine ⟨a, c, xs, xs.drop 1, rfl, .inr ⟨.of (sc _ _ hx), .of hc, k _ _ sc ⟨fun j H' sj hj => ?_, fun H' sj => ?_, fun j x H' H'' sj y => ?_⟩⟩⟩
      · exact ⟨xs, xs.drop 1, xs[j], xs[j + 1], .of (sj _ _ (sc _ _ hx)), .of (sj _ _ hc), List.getElem?_eq_getElem (by omega), by rw [gn]; exact List.getElem?_eq_getElem hj⟩
      · exact ⟨xs, xs.drop 1, .of (sj _ _ (sc _ _ hx)), .of (sj _ _ hc), .inr (by rw [List.length_drop]; exact Nat.le_refl _)⟩
      · obtain ⟨T, x1, x2, e1, e2, e3, f1, f2⟩ := y
        exact ⟨T, x1, x2, e1, e2, e3, f1 xs (.of (sj _ _ (sc _ _ hx))), fun _ => by rw [← gn]; exact f2 _ (.of (sj _ _ hc))⟩
end
/-! ### runs and states, dressed -/
def RunG (H : Hp) (v : V) (r : Run) : Prop := ∃ t, v = .ref t ∧ Sq2 H t [.str r.1, .int r.2]
def RunsG (H : Hp) (v : V) (rs : List Run) : Prop := ∃ a xs, v = .ref a ∧ Sq2 H a xs ∧ Paired (RunG H) xs rs
def StG (H : Hp) (v : V) : Option Run → Prop
  | none => v = .non
  | some r => RunG H v r
theorem RunG.same {H H' : Hp} {v : V} {r : Run} (s : Same H H') (h : RunG H v r) : RunG H' v r := by
  obtain ⟨t, e, h⟩ := h
  exact ⟨t, e, h.same s⟩
theorem RunsG.same {H H' : Hp} {v : V} {rs : List Run} (s : Same H H') (h : RunsG H v rs) : RunsG H' v rs := by
  obtain ⟨a, xs, e, hx, p⟩ := h
  exact ⟨a, xs, e, hx.same s, Paired.imp (fun _ _ => RunG.same s) p⟩
theorem StG.same {H H' : Hp} {v : V} {st : Option Run} (s : Same H H') (h : StG H v st) : StG H' v st := by
  cases st with
  | none => exact h
  | some r => exact RunG.same s h
theorem RunV.dress {H : Hp} {v : V} {r : Run} (h : RunV H v r) : RunG H v r := by
  obtain ⟨t, e, h⟩ := h
  exact ⟨t, e, .inr h⟩
theorem Runs.dress {H : Hp} {a : Addr} {rs : List Run} (h : Runs H a rs) : RunsG H (.ref a) rs := by
  obtain ⟨xs, hx, p⟩ := h
  exact ⟨a, xs, rfl, .inl hx, Paired.imp (fun _ _ => RunV.dress) p⟩
theorem StV.dress {H : Hp} {v : V} {st : Option Run} (h : StV H v st) : StG H v st := by
  cases st with
  | none => exact h
  | some r => exact RunV.dress h
theorem Sq2.but {H H' : Hp} {sp a : Addr} {xs : List V} (z : Spr H sp) (s : But sp H H') (h : Sq2 H a xs) (n : ∀ d e f, xs ≠ [.int d, .int e, .int f]) : Sq2 H' a xs := by
  obtain ⟨d, e, f, hs, _⟩ := z
  rcases h with h | h
  · exact .inl (s _ _ (ne_of h hs fun q => n d e f (HO.lst.inj q)) h)
  · exact .inr (s _ _ (ne_of h hs fun q => by cases q) h)
theorem RunG.but {H H' : Hp} {sp : Addr} {v : V} {r : Run} (z : Spr H sp) (s : But sp H H') (h : RunG H v r) : RunG H' v r := by
  obtain ⟨t, e, h⟩ := h
  exact ⟨t, e, h.but z s fun _ _ _ q => by cases q⟩
theorem RunsG.but {H H' : Hp} {sp : Addr} {v : V} {rs : List Run} (z : Spr H sp) (s : But sp H H') (h : RunsG H v rs) : RunsG H' v rs := by
  obtain ⟨a, xs, e, hx, p⟩ := h
  refine ⟨a, xs, e, hx.but z s fun d _ _ q => ?_, Paired.imp (fun _ _ => RunG.but z s) p⟩
  subst q
  cases p with
  | cons h _ =>
    obtain ⟨_, e, _⟩ := h
    cases e
theorem StG.but {H H' : Hp} {sp : Addr} {v : V} {st : Option Run} (z : Spr H sp) (s : But sp H H') (h : StG H v st) : StG H' v st := by
  cases st with
  | none => exact h
  | some r => exact RunG.but z s h
end UP

set_option Elab.async false
set_option linter.all false
set_option maxRecDepth 100000
set_option maxHeartbeats 4000000
namespace UP
open PySem PySem.Spec PyProof.Rows L2
def topS (i : Nat) : Stmt := PySem.Challenge.pw_unlikepairs_k28_shortest_meetings_by_sea.main.body.getD i (.Pass ⟨0, 0, 0, 0⟩)
structure Tx (mg : Str → Option Value) : Prop where
  n_isinstance : mg "isinstance" = none
  n_int : mg "int" = none
  n_bool : mg "bool" = none
  n_str : mg "str" = none
  n_list : mg "list" = none
  n_tuple : mg "tuple" = none
  n_len : mg "len" = none
  n_all : mg "all" = none
  n_zip : mg "zip" = none
  n_sum : mg "sum" = none
  n_min : mg "min" = none
  n_max : mg "max" = none
  n_abs : mg "abs" = none
  n_range : mg "range" = none
  n_repr : mg "repr" = none
  n_enumerate : mg "enumerate" = none
  n_any : mg "any" = none
  n_dict : mg "dict" = none
  n_sorted : mg "sorted" = none
  n_set : mg "set" = none
  n_reversed : mg "reversed" = none
  c_MAX_LETTERS : ∃ t, mg "MAX_LETTERS" = some (.int 8 t)
  c_MAX_RUNS : ∃ t, mg "MAX_RUNS" = some (.int 400 t)
  c_MAX_KINDS : ∃ t, mg "MAX_KINDS" = some (.int 12 t)
  c_MAX_COUNT : ∃ t, mg "MAX_COUNT" = some (.int 1000000000000000000000000000000 t)
section
variable {P : Program} {w : World} {K : PySem.W.Frag} {mg : Str → Option Value} {base : Heap}
/-! is_whole: slots 0:value -/
abbrev s_is_whole : Stmt := topS 10
theorem sc_is_whole : FnScope ["value"] ["value"] (defScope s_is_whole) := ⟨rfl, rfl, rfl, by decide +kernel, rfl, by decide +kernel, by decide +kernel⟩
def sp_is_whole : Sp := fun vs H Q _ => ∃ n : Int, vs = [.int n] ∧ Q (.bl true) H
theorem ok_is_whole (D : Df K mg "is_whole" s_is_whole) (T : Tx mg) : Has P w K mg base 1 "is_whole" ["value"] sp_is_whole := by
  refine has_of D sc_is_whole (fun _ _ _ _ _ _ us hl => match us, hl with | [_], _ => rfl) (fun vs H Q E h => ?_) (fun f cdv A outer s H vs Q E hr h => ?_)
  · obtain ⟨n, rfl, _⟩ := h
    rfl
  · obtain ⟨n, rfl, q⟩ := h
    refine ⟨_, (pss_one (ps_ret (pe_and (pe_callB call_isi (by rfl) T.n_isinstance (by decide +kernel) (pa_cons (pv 0) (pa_cons (pe_bltn (v := .ty "int") (by rfl) T.n_int (by decide +kernel) rfl) pa_nil))) (pe_one (pe_not (pe_callB call_isi (by rfl) T.n_isinstance (by decide +kernel) (pa_cons (pv 0) (pa_cons (pe_bltn (v := .ty "bool") (by rfl) T.n_bool (by decide +kernel) rfl) pa_nil)))))))), ?_⟩
    exact ⟨_, rfl, _, _, _, _, true, rfl, .ty "int", .base (.int n), kit_ty (by decide +kernel), true, rfl, iteT ⟨_, rfl, _, _, _, _, false, rfl, .ty "bool", .base (.int n), kit_ty (by decide +kernel), false, rfl, q⟩⟩
/-! is_within: slots 0:value 1:low 2:high -/
abbrev s_is_within : Stmt := topS 11
theorem sc_is_within : FnScope ["value", "low", "high"] ["value", "low", "high"] (defScope s_is_within) := ⟨rfl, rfl, rfl, by decide +kernel, rfl, by decide +kernel, by decide +kernel⟩
def sp_is_within : Sp := fun vs H Q _ => ∃ n lo hi : Int, vs = [.int n, .int lo, .int hi] ∧ Q (.bl (decide (lo ≤ n ∧ n ≤ hi))) H
theorem ok_is_within (D : Df K mg "is_within" s_is_within) (G_is_whole : Has P w K mg base 1 "is_whole" ["value"] sp_is_whole) : Has P w K mg base 2 "is_within" ["value", "low", "high"] sp_is_within := by
  refine has_of D sc_is_within (fun _ _ _ _ _ _ us hl => match us, hl with | [_, _, _], _ => rfl) (fun vs H Q E h => ?_) (fun f cdv A outer s H vs Q E hr h => ?_)
  · obtain ⟨n, lo, hi, rfl, _⟩ := h
    rfl
  · obtain ⟨n, lo, hi, rfl, q⟩ := h
    refine ⟨_, (pss_one (ps_ret (pe_and (pe_callH G_is_whole (hr.mono (by omega)) (by rfl) (pa_cons (pv 0) pa_nil)) (pe_one (pe_chain op_le op_le (pv 1) (pv 0) (pv 2)))))), ?_⟩
    refine ⟨_, rfl, n, rfl, true, rfl, iteT ⟨_, rfl, _, rfl, _, _, rfl, rfl, _, rfl, ite2 (fun e => ?_) (fun e => ?_)⟩⟩
    · have e := of_decide_eq_true e
      refine ⟨_, rfl, _, _, rfl, rfl, ?_⟩
      show Q (.bl (decide (n ≤ hi))) H
      rw [show decide (n ≤ hi) = decide (lo ≤ n ∧ n ≤ hi) by simp [e]]
      exact q
    · have e : ¬ lo ≤ n := fun z => e (decide_eq_true z)
      show Q (.bl false) H
      rw [show false = decide (lo ≤ n ∧ n ≤ hi) by simp [e]]
      exact q
theorem kit_lst {K : PySem.W.Frag} : PySem.W.kitAny K (.type "list") [.type "list", .type "tuple"] = some true := kitAny_cons (b := true) (kit_ty (by decide +kernel)) (fun z => nomatch z) (fun _ => rfl)
theorem kit_tup {K : PySem.W.Frag} : PySem.W.kitAny K (.type "tuple") [.type "list", .type "tuple"] = some true := kitAny_cons (b := false) (kit_ty (by decide +kernel)) (fun _ => kitAny_cons (b := true) (kit_ty (by decide +kernel)) (fun z => nomatch z) (fun _ => rfl)) (fun z => nomatch z)
/-! is_listed: slots 0:value 1:most -/
abbrev s_is_listed : Stmt := topS 12
theorem sc_is_listed : FnScope ["value", "most"] ["value", "most"] (defScope s_is_listed) := ⟨rfl, rfl, rfl, by decide +kernel, rfl, by decide +kernel, by decide +kernel⟩
def sp_is_listed : Sp := fun vs H Q _ => ∃ (a : Addr) (xs : List V) (m : Int), vs = [.ref a, .int m] ∧ Sq2 H a xs ∧ ∀ H', Same H H' → Q (.bl (decide ((xs.length : Int) ≤ m))) H'
theorem ok_is_listed (D : Df K mg "is_listed" s_is_listed) (T : Tx mg) : Has P w K mg base 1 "is_listed" ["value", "most"] sp_is_listed := by
  refine has_of D sc_is_listed (fun _ _ _ _ _ _ us hl => match us, hl with | [_, _], _ => rfl) (fun vs H Q E h => ?_) (fun f cdv A outer s H vs Q E hr h => ?_)
  · obtain ⟨a, xs, m, rfl, _⟩ := h
    rfl
  · obtain ⟨a, xs, m, rfl, hx, q⟩ := h
    refine ⟨_, (pss_one (ps_ret (pe_and (pe_callB call_isiT (by rfl) T.n_isinstance (by decide +kernel) (pa_cons (pv 0) (pa_cons (pe_tup (pa_cons (pe_bltn (v := .ty "list") (by rfl) T.n_list (by decide +kernel) rfl) (pa_cons (pe_bltn (v := .ty "tuple") (by rfl) T.n_tuple (by decide +kernel) rfl) pa_nil))) pa_nil))) (pe_one (pe_cmpR op_le (pe_callB call_len_seq (by rfl) T.n_len (by decide +kernel) (pa_cons (pv 0) pa_nil)) (pv 1) (nomark _)))))), ?_⟩
    refine ⟨_, rfl, (by show 2 ≤ sizeLine; decide), fun t nt => ?_⟩
    rcases hx with hx | hx
    · refine ⟨_, t, _, _, _, true, rfl, upd_same, .cons (.ty "list") (.cons (.ty "tuple") .nil), .base (.lst (same_upd nt _ _ hx)), kit_lst, true, rfl, iteT ?_⟩
      exact ⟨_, rfl, _, _, rfl, .inl (.of (same_upd nt _ _ hx)), _, rfl, _, _, rfl, rfl, q _ (same_upd nt)⟩
    · refine ⟨_, t, _, _, _, true, rfl, upd_same, .cons (.ty "list") (.cons (.ty "tuple") .nil), .base (.tup (same_upd nt _ _ hx)), kit_tup, true, rfl, iteT ?_⟩
      exact ⟨_, rfl, _, _, rfl, .inr (.of (same_upd nt _ _ hx)), _, rfl, _, _, rfl, rfl, q _ (same_upd nt)⟩
/-! is_couple: slots 0:value -/
abbrev s_is_couple : Stmt := topS 13
theorem sc_is_couple : FnScope ["value"] ["value"] (defScope s_is_couple) := ⟨rfl, rfl, rfl, by decide +kernel, rfl, by decide +kernel, by decide +kernel⟩
def sp_is_couple : Sp := fun vs H Q _ => ∃ (a : Addr) (xs : List V), vs = [.ref a] ∧ Sq2 H a xs ∧ xs.length = 2 ∧ ∀ H', Same H H' → Q (.bl true) H'
theorem ok_is_couple (D : Df K mg "is_couple" s_is_couple) (T : Tx mg) : Has P w K mg base 1 "is_couple" ["value"] sp_is_couple := by
  refine has_of D sc_is_couple (fun _ _ _ _ _ _ us hl => match us, hl with | [_], _ => rfl) (fun vs H Q E h => ?_) (fun f cdv A outer s H vs Q E hr h => ?_)
  · obtain ⟨a, xs, rfl, _⟩ := h
    rfl
  · obtain ⟨a, xs, rfl, hx, hl, q⟩ := h
    refine ⟨_, (pss_one (ps_ret (pe_and (pe_callB call_isiT (by rfl) T.n_isinstance (by decide +kernel) (pa_cons (pv 0) (pa_cons (pe_tup (pa_cons (pe_bltn (v := .ty "list") (by rfl) T.n_list (by decide +kernel) rfl) (pa_cons (pe_bltn (v := .ty "tuple") (by rfl) T.n_tuple (by decide +kernel) rfl) pa_nil))) pa_nil))) (pe_one (pe_cmpR op_eq (pe_callB call_len_seq (by rfl) T.n_len (by decide +kernel) (pa_cons (pv 0) pa_nil)) pe_int (nomark _)))))), ?_⟩
    refine ⟨_, rfl, (by show 2 ≤ sizeLine; decide), fun t nt => ?_⟩
    rcases hx with hx | hx
    · refine ⟨_, t, _, _, _, true, rfl, upd_same, .cons (.ty "list") (.cons (.ty "tuple") .nil), .base (.lst (same_upd nt _ _ hx)), kit_lst, true, rfl, iteT ⟨_, rfl, _, _, rfl, .inl (.of (same_upd nt _ _ hx)), rfl, ?_⟩⟩
      rw [hl]
      exact q _ (same_upd nt)
    · refine ⟨_, t, _, _, _, true, rfl, upd_same, .cons (.ty "list") (.cons (.ty "tuple") .nil), .base (.tup (same_upd nt _ _ hx)), kit_tup, true, rfl, iteT ⟨_, rfl, _, _, rfl, .inr (.of (same_upd nt _ _ hx)), rfl, ?_⟩⟩
      rw [hl]
      exact q _ (same_upd nt)
end
end UP

set_option Elab.async false
set_option linter.all false
set_option maxRecDepth 100000
set_option maxHeartbeats 4000000
namespace UP
open PySem PySem.Spec PyProof.Rows L2
theorem iteP {b : Bool} {A B : Prop} (h : b = true) (x : A) : if b = true then A else B := by
  rw [if_pos h]
  exact x
theorem iteN {b : Bool} {A B : Prop} (h : b = false) (x : B) : if b = true then A else B := by
  rw [if_neg (by rw [h]; decide)]
  exact x
theorem yesT {σ : L2.St} {H : Hp} {A B : Hp → Prop} (h : A H) : tYes σ H (fun b H3 => if b = true then A H3 else B H3) := by
  show (if true = true then A H else B H)
  exact iteT h
theorem lc_gen {J : It} {n : Nat} {g : TG} {tt : TT} {te : TE} {vs : List Nat} {σ : L2.St} {H1 : Hp} {D : Addr} {Qd : Hp → Prop} (Pv : Nat → Hp → Prop) (h0 : Pv 0 (upd H1 D (.lst [])))
    (hg : ∀ i H, i < n → Pv i H → J.go i H) (hst : ∀ H, Pv n H → J.stop n H)
    (hs : ∀ i x H H', i < n → Pv i H → J.yld i H x H' → g x (wipe σ vs) H' fun σ2 H2 => wipe σ2 vs = wipe σ vs ∧ tt σ2 H2 fun b H3 =>
      if b = true then te σ2 H3 fun y H4 => ∃ acc, H4 D = some (.lst acc) ∧ acc.length < sizeLine ∧ Pv (i + 1) (upd H4 D (.lst (acc ++ [y]))) else Pv (i + 1) H3) (hd : ∀ H, Pv n H → Qd H) :
    ∃ W : Nat → Nat → Hp → Prop, (∃ m, W 0 m (upd H1 D (.lst []))) ∧ ∀ i m H, W i m H →
      (J.stop i H ∧ Qd H) ∨ (J.go i H ∧ ∃ Nx : Hp → Prop, (∀ H', Nx H' → ∃ m', m' < m ∧ W (i + 1) m' H') ∧ ∀ x H', J.yld i H x H' → g x (wipe σ vs) H' fun σ2 H2 => wipe σ2 vs = wipe σ vs ∧ tt σ2 H2 fun b H3 =>
        if b = true then te σ2 H3 fun y H4 => ∃ acc, H4 D = some (.lst acc) ∧ acc.length < sizeLine ∧ Nx (upd H4 D (.lst (acc ++ [y]))) else Nx H3) := by
  refine ⟨fun i m H => m = n - i ∧ i ≤ n ∧ Pv i H, ⟨n, by simp, Nat.zero_le _, h0⟩, ?_⟩
  rintro i m H ⟨rfl, hi, p⟩
  by_cases hlt : i < n
  · exact .inr ⟨hg i H hlt p, Pv (i + 1), fun H' p' => ⟨n - (i + 1), by omega, rfl, hlt, p'⟩, fun x H' y => hs i x H H' hlt p y⟩
  · have e : i = n := by omega
    subst e
    exact .inl ⟨hst H p, hd H p⟩
section
variable {X : Cx} {K : PySem.W.Frag}
theorem ix_tupK (h : X.K = K) : IxR X (rIxT K) := h ▸ ix_tup
theorem ix_listK (h : X.K = K) : IxR X (rIxL K) := h ▸ ix_list
theorem pg_tupK {es : List Expr} {k : Nat} {t : TGs} {n : Nat} {pos : Pos} (h : X.K = K) (hc : X.calm = true) (hp : PGs X es t)
    (hn : (assignEach es X.env).length = n := by rfl) (hst : (assignEach es X.env).findIdx? (fun z => z.1) = none := by rfl) : PG X (.Tuple es k pos) (gTup K n t) := by
  subst h
  exact pg_tup hc hp hn hst
theorem call_len_seqK (h : X.K = K) : CallR X (.builtin "len") (fun xs H Q => ∃ p ys, xs = [.ref p] ∧ (SqL K H p ys ∨ SqT K H p ys) ∧ Q (.int ys.length) H) := by
  subst h
  exact call_len_seq
end
theorem ix_seqK {X : Cx} {K : PySem.W.Frag} (h : X.K = K) : IxR X (rIx K) := h ▸ ix_seq
/-! ### lists that grow -/
theorem same_grow {H H4 : Hp} {D : Addr} {o : HO} (n : H D = none) (s : Same H H4) : Same H (upd H4 D o) := fun b x e => by
  rw [upd_ne (ne_of_none e n)]
  exact s b x e
theorem RunV.grow {H : Hp} {D : Addr} {acc acc' : List V} {v : V} {r : Run} (hD : H D = some (.lst acc)) (h : RunV H v r) : RunV (upd H D (.lst acc')) v r := by
  obtain ⟨t, e, h⟩ := h
  refine ⟨t, e, ?_⟩
  rw [upd_ne (ne_of h hD (by intro q; cases q))]
  exact h
theorem prs_grow {H : Hp} {D : Addr} {acc acc' : List V} {xs : List V} {rs : List Run} (hD : H D = some (.lst acc)) (h : Paired (RunV H) xs rs) : Paired (RunV (upd H D (.lst acc'))) xs rs := Paired.imp (fun _ _ => RunV.grow hD) h
theorem prs_same {H H' : Hp} {xs : List V} {rs : List Run} (s : Same H H') (h : Paired (RunV H) xs rs) : Paired (RunV H') xs rs := Paired.imp (fun _ _ => RunV.same s) h
theorem take_snoc {α : Type} {l : List α} {i : Nat} {x : α} (h : l[i]? = some x) : l.take (i + 1) = l.take i ++ [x] := by
  rw [List.take_add_one, h]
  rfl
theorem lc_wk {J : It} {H0 H1 : Hp} {xs : List V} {g : TG} {tt : TT} {te : TE} {vs : List Nat} {σ : L2.St} {D : Addr} {Qd : Hp → Prop} (wk : Wk J H0 xs) (Pv : Nat → Hp → Prop) (hsm : ∀ i H, Pv i H → Same H0 H) (h0 : Pv 0 (upd H1 D (.lst [])))
    (hs : ∀ i x H, xs[i]? = some x → Pv i H → g x (wipe σ vs) H fun σ2 H2 => wipe σ2 vs = wipe σ vs ∧ tt σ2 H2 fun b H3 =>
      if b = true then te σ2 H3 fun y H4 => ∃ acc, H4 D = some (.lst acc) ∧ acc.length < sizeLine ∧ Pv (i + 1) (upd H4 D (.lst (acc ++ [y]))) else Pv (i + 1) H3) (hd : ∀ H, Pv xs.length H → Qd H) :
    ∃ W : Nat → Nat → Hp → Prop, (∃ m, W 0 m (upd H1 D (.lst []))) ∧ ∀ i m H, W i m H →
      (J.stop i H ∧ Qd H) ∨ (J.go i H ∧ ∃ Nx : Hp → Prop, (∀ H', Nx H' → ∃ m', m' < m ∧ W (i + 1) m' H') ∧ ∀ x H', J.yld i H x H' → g x (wipe σ vs) H' fun σ2 H2 => wipe σ2 vs = wipe σ vs ∧ tt σ2 H2 fun b H3 =>
        if b = true then te σ2 H3 fun y H4 => ∃ acc, H4 D = some (.lst acc) ∧ acc.length < sizeLine ∧ Nx (upd H4 D (.lst (acc ++ [y]))) else Nx H3) := by
  refine lc_gen Pv h0 (fun i H hi p => wk.go i H (hsm i H p) hi) (fun H p => wk.stop H (hsm _ H p)) (fun i x H H' hi p y => ?_) hd
  obtain ⟨e, ex⟩ := wk.yld i x H H' (hsm i H p) y
  subst e
  exact hs i x _ ex p
theorem for_wk {J : It} {H0 H : Hp} {xs : List V} {g : TG} {tb : TS} {D : Ends} {σ : L2.St} (wk : Wk J H0 xs) (Pv : Nat → L2.St → Hp → Prop) (hsm : ∀ i σ H, Pv i σ H → Same H0 H) (h0 : Pv 0 σ H)
    (hs : ∀ i x σ H, xs[i]? = some x → Pv i σ H → g x σ H fun σ2 H2 => tb { D with nx := Pv (i + 1), ct := Pv (i + 1), bk := D.nx } σ2 H2) (hd : ∀ σ H, Pv xs.length σ H → D.nx σ H) :
    ∃ W : Nat → Nat → L2.St → Hp → Prop, (∃ m, W 0 m σ H) ∧ ∀ i m σ H, W i m σ H →
      (J.stop i H ∧ D.nx σ H) ∨ (J.go i H ∧ ∃ N : L2.St → Hp → Prop, (∀ σ' H', N σ' H' → ∃ m', m' < m ∧ W (i + 1) m' σ' H') ∧ ∀ x H', J.yld i H x H' → g x σ H' fun σ2 H2 => tb { D with nx := N, ct := N, bk := D.nx } σ2 H2) := by
  refine ⟨fun i m σ H => m = xs.length - i ∧ i ≤ xs.length ∧ Pv i σ H, ⟨xs.length, by omega, Nat.zero_le _, h0⟩, ?_⟩
  rintro i m σ H ⟨rfl, hi, p⟩
  by_cases hlt : i < xs.length
  · refine Or.inr ⟨wk.go i H (hsm i σ H p) hlt, Pv (i + 1), fun σ' H' p' => ⟨xs.length - (i + 1), by omega, rfl, hlt, p'⟩, fun x H' y => ?_⟩
    obtain ⟨e, ex⟩ := wk.yld i x H H' (hsm i σ H p) y
    subst e
    exact hs i x σ _ ex p
  · have e : i = xs.length := by omega
    subst e
    exact Or.inl ⟨wk.stop H (hsm _ σ H p), hd σ H p⟩
section
variable {P : Program} {w : World} {K : PySem.W.Frag} {mg : Str → Option Value} {base : Heap}
theorem lex1 {c d : Nat} : (!decide (([c] : List Nat) < [d])) = decide (d ≤ c) := by
  have e : (([c] : List Nat) < [d]) ↔ c < d := by
    rw [List.cons_lt_cons_iff]
    simp
  by_cases h : c < d
  · rw [decide_eq_true (e.mpr h), decide_eq_false (by omega)]
    rfl
  · rw [decide_eq_false (fun z => h (e.mp z)), decide_eq_true (by omega)]
    rfl
/-! is_kind: slots 0:value 1:letter -/
abbrev s_is_kind : Stmt := topS 14
theorem sc_is_kind : FnScope ["value", "letter"] ["value"] (defScope s_is_kind) := ⟨rfl, rfl, rfl, by decide +kernel, rfl, by decide +kernel, by decide +kernel⟩
def sp_is_kind : Sp := fun vs H Q _ => ∃ z : Str, vs = [.str z] ∧ KindOk z ∧ ∀ H', Same H H' → Q (.bl true) H'
theorem ok_is_kind (D : Df K mg "is_kind" s_is_kind) (T : Tx mg) : Has P w K mg base 1 "is_kind" ["value"] sp_is_kind := by
  refine has_of D sc_is_kind (fun _ _ _ _ _ _ us hl => match us, hl with | [_], _ => rfl) (fun vs H Q E h => ?_) (fun f cdv A outer s H vs Q E hr h => ?_)
  · obtain ⟨n, rfl, _⟩ := h
    rfl
  · obtain ⟨z, rfl, ⟨k1, k2, k3⟩, q⟩ := h
    refine ⟨_, (pss_cons (ps_if (PW.pt (pw_or (pt_not (pt_val (pe_callB call_isi (by rfl) T.n_isinstance (by decide +kernel) (pa_cons (pv 0) (pa_cons (pe_bltn (v := .ty "str") (by rfl) T.n_str (by decide +kernel) rfl) pa_nil))))) (pw_or1 (pt_not (pt_chain op_le op_le pe_int (pe_callB call_len_str (by rfl) T.n_len (by decide +kernel) (pa_cons (pv 0) pa_nil)) (pe_glI T.c_MAX_LETTERS (by rfl))))))) (pss_one (ps_ret pe_bl)) pss_nil)
    (pss_one (ps_ret (pe_callB (cr_all rfl) (by rfl) T.n_all (by decide +kernel) (pa_cons (pe_lc (own := [("letter", 1)]) rfl sc_is_kind.nd (pi_str (pv 0)) (blkOk_by (N := ["value", "letter"]) (sc := defScope s_is_kind) (by decide +kernel)) (fun _ _ _ _ _ => (pg_name (i := 1) sc_is_kind.nd rfl (by first | exact Or.inl rfl | exact Or.inr rfl))) (fun _ _ _ _ _ => pts_nil) (fun _ _ _ _ _ => (pe_chain op_le_str op_le_str pe_str (pv 1) pe_str))) pa_nil))))), ?_⟩
    refine ⟨_, rfl, _, _, _, _, true, rfl, .ty "str", .base (.str z), kit_ty (by decide +kernel), true, rfl, iteF ?_⟩
    refine ⟨_, rfl, z, rfl, smallE (by omega), _, _, rfl, rfl, _, rfl, iteP (decide_eq_true (by omega)) ⟨_, _, rfl, rfl, _, rfl, iteN ?_ ?_⟩⟩
    · show (!decide ((z.length : Int) ≤ 8)) = false
      rw [decide_eq_true (by omega)]
      rfl
    refine ⟨_, rfl, z, rfl, fun L nL => lc_gen (n := z.cps.size) (fun i H' => Same H H' ∧ H' L = some (.lst ((List.replicate i true).map V.bl))) ⟨same_upd nL, upd_same⟩ (fun i H' hi _ => hi) (fun H' _ => Nat.le_refl _) (fun i x H1 H2 hi p y => ?_) (fun H' p => ?_)⟩
    · obtain ⟨rfl, c, ec, rfl⟩ := y
      obtain ⟨sm, hL⟩ := p
      have hc : 97 ≤ c ∧ c ≤ 122 := k3 c (by
        have := Array.mem_of_getElem? ec
        simpa using this)
      have ea : ("a" : Str).cps.toList = [97] := by decide +kernel
      have ez : ("z" : Str).cps.toList = [122] := by decide +kernel
      refine ⟨rfl, yesT ⟨_, rfl, _, _, rfl, rfl, _, rfl, iteP ?_ ⟨_, _, rfl, rfl, _, hL, ?_, ?_, ?_⟩⟩⟩
      · show (!decide (([c] : List Nat) < ("a" : Str).cps.toList)) = true
        rw [ea, lex1]
        exact decide_eq_true hc.1
      · simp only [List.length_map, List.length_replicate]
        exact small (by have : z.cps.size = z.length := rfl; omega)
      · intro b o e
        have nb : b ≠ L := ne_of_none e nL
        rw [upd_ne nb]
        exact sm b o e
      · rw [upd_same]
        have e1 : (!decide ((("z" : Str).cps.toList) < ([c] : List Nat))) = true := by
          rw [ez, lex1]
          exact decide_eq_true hc.2
        show some (HO.lst ((List.replicate i true).map V.bl ++ [V.bl (!decide ((("z" : Str).cps.toList) < ([c] : List Nat)))])) = _
        rw [e1, List.replicate_succ', List.map_append]
        rfl
    · refine ⟨L, _, rfl, .of p.2, ?_⟩
      have e : ((List.replicate z.cps.size true).all id) = true := by simp
      rw [e]
      exact q H' p.1
def StOk (st : Option Run) : Prop := ∀ r, st = some r → KindOk r.1 ∧ 1 ≤ r.2
theorem at0 {α : Type} {x y : α} : atI [x, y] 0 = some x := rfl
theorem at1 {α : Type} {x y : α} : atI [x, y] 1 = some y := rfl
theorem ix0 {K : PySem.W.Frag} {H : Hp} {t : Addr} {x y : V} {Q : VK} (h : Sq2 H t [x, y]) (q : Q x H) : rIx K (.ref t) (.int 0) H Q := h.elim (fun z => .inl ⟨t, _, 0, _, rfl, rfl, .of z, at0, q⟩) (fun z => .inr (.inl ⟨t, _, 0, _, rfl, rfl, .of z, at0, q⟩))
theorem ix1 {K : PySem.W.Frag} {H : Hp} {t : Addr} {x y : V} {Q : VK} (h : Sq2 H t [x, y]) (q : Q y H) : rIx K (.ref t) (.int 1) H Q := h.elim (fun z => .inl ⟨t, _, 1, _, rfl, rfl, .of z, at1, q⟩) (fun z => .inr (.inl ⟨t, _, 1, _, rfl, rfl, .of z, at1, q⟩))
theorem all_rep (n : Nat) : ((List.replicate n true).all id) = true := by simp
/-! is_run: slots 0:value -/
abbrev s_is_run : Stmt := topS 16
theorem sc_is_run : FnScope ["value"] ["value"] (defScope s_is_run) := ⟨rfl, rfl, rfl, by decide +kernel, rfl, by decide +kernel, by decide +kernel⟩
def sp_is_run : Sp := fun vs H Q _ => ∃ (v : V) (r : Run), vs = [v] ∧ RunG H v r ∧ RunOk r ∧ ∀ H', Same H H' → Q (.bl true) H'
theorem ok_is_run (D : Df K mg "is_run" s_is_run) (T : Tx mg) (G_is_couple : Has P w K mg base 1 "is_couple" ["value"] sp_is_couple) (G_is_kind : Has P w K mg base 1 "is_kind" ["value"] sp_is_kind) (G_is_within : Has P w K mg base 2 "is_within" ["value", "low", "high"] sp_is_within) :
    Has P w K mg base 3 "is_run" ["value"] sp_is_run := by
  refine has_of D sc_is_run (fun _ _ _ _ _ _ us hl => match us, hl with | [_], _ => rfl) (fun vs H Q E h => ?_) (fun f cdv A outer s H vs Q E hr h => ?_)
  · obtain ⟨v, r, rfl, _⟩ := h
    rfl
  · obtain ⟨v, r, rfl, ⟨t, rfl, ht⟩, ⟨k, c1, c2⟩, q⟩ := h
    refine ⟨_, (pss_one (ps_ret (pe_and (pe_callH G_is_couple (hr.mono (by omega)) (by rfl) (pa_cons (pv 0) pa_nil)) (pe_and (pe_callH G_is_kind (hr.mono (by omega)) (by rfl) (pa_cons (pe_ix ix_seq (pv 0) pe_int (fun _ _ => rfl)) pa_nil)) (pe_one (pe_callH G_is_within (hr.mono (by omega)) (by rfl) (pa_cons (pe_ix ix_seq (pv 0) pe_int (fun _ _ => rfl)) (pa_cons pe_int (pa_cons (pe_glI T.c_MAX_COUNT (by rfl)) pa_nil))))))))), ?_⟩
    refine ⟨_, rfl, t, _, rfl, ht, rfl, fun H1 s1 => ⟨true, rfl, iteT ?_⟩⟩
    refine ⟨_, rfl, ix0 (ht.same s1) ⟨r.1, rfl, k, fun H2 s2 => ⟨true, rfl, iteT ?_⟩⟩⟩
    refine ⟨_, rfl, ix1 ((ht.same s1).same s2) ⟨r.2, 1, _, rfl, ?_⟩⟩
    rw [decide_eq_true ⟨c1, c2⟩]
    exact q _ (s1.trans s2)
/-! is_state: slots 0:value -/
abbrev s_is_state : Stmt := topS 18
theorem sc_is_state : FnScope ["value"] ["value"] (defScope s_is_state) := ⟨rfl, rfl, rfl, by decide +kernel, rfl, by decide +kernel, by decide +kernel⟩
def sp_is_state : Sp := fun vs H Q _ => ∃ (v : V) (st : Option Run), vs = [v] ∧ StG H v st ∧ StOk st ∧ ∀ H', Same H H' → Q (.bl true) H'
theorem ok_is_state (D : Df K mg "is_state" s_is_state) (T : Tx mg) (G_is_couple : Has P w K mg base 1 "is_couple" ["value"] sp_is_couple) (G_is_kind : Has P w K mg base 1 "is_kind" ["value"] sp_is_kind) (G_is_whole : Has P w K mg base 1 "is_whole" ["value"] sp_is_whole) :
    Has P w K mg base 2 "is_state" ["value"] sp_is_state := by
  refine has_of D sc_is_state (fun _ _ _ _ _ _ us hl => match us, hl with | [_], _ => rfl) (fun vs H Q E h => ?_) (fun f cdv A outer s H vs Q E hr h => ?_)
  · obtain ⟨v, r, rfl, _⟩ := h
    rfl
  · obtain ⟨v, st, rfl, hv, ok, q⟩ := h
    refine ⟨_, (pss_cons (ps_if (pt_cmpR op_isN (pv 0) pe_non (nomark _)) (pss_one (ps_ret pe_bl)) pss_nil)
    (pss_one (ps_ret (pe_and (pe_callH G_is_couple (hr.mono (by omega)) (by rfl) (pa_cons (pv 0) pa_nil)) (pe_and (pe_callH G_is_kind (hr.mono (by omega)) (by rfl) (pa_cons (pe_ix ix_seq (pv 0) pe_int (fun _ _ => rfl)) pa_nil)) (pe_and (pe_callH G_is_whole (hr.mono (by omega)) (by rfl) (pa_cons (pe_ix ix_seq (pv 0) pe_int (fun _ _ => rfl)) pa_nil)) (pe_one (pe_cmpR op_ge (pe_ix ix_seq (pv 0) pe_int (fun _ _ => rfl)) pe_int (nomark _))))))))), ?_⟩
    cases st with
    | none =>
      cases hv
      exact ⟨_, rfl, rfl, _, rfl, iteP rfl (q H (Same.refl H))⟩
    | some r =>
      obtain ⟨t, rfl, ht⟩ := hv
      obtain ⟨k, c1⟩ := ok r rfl
      refine ⟨_, rfl, rfl, _, rfl, iteN rfl ?_⟩
      refine ⟨_, rfl, t, _, rfl, ht, rfl, fun H1 s1 => ⟨true, rfl, iteT ?_⟩⟩
      refine ⟨_, rfl, ix0 (ht.same s1) ⟨r.1, rfl, k, fun H2 s2 => ⟨true, rfl, iteT ?_⟩⟩⟩
      refine ⟨_, rfl, ix1 ((ht.same s1).same s2) ⟨r.2, rfl, true, rfl, iteT ?_⟩⟩
      refine ⟨_, rfl, ix1 ((ht.same s1).same s2) ⟨_, _, rfl, rfl, ?_⟩⟩
      show Q (.bl (decide (1 ≤ r.2))) H2
      rw [decide_eq_true c1]
      exact q _ (s1.trans s2)
/-! is_sequence: slots 0:value 1:run 2:following -/
abbrev s_is_sequence : Stmt := topS 17
theorem sc_is_sequence : FnScope ["value", "run", "following"] ["value"] (defScope s_is_sequence) := ⟨rfl, rfl, rfl, by decide +kernel, rfl, by decide +kernel, by decide +kernel⟩
def sp_is_sequence : Sp := fun vs H Q _ => ∃ (v : V) (rs : List Run), vs = [v] ∧ RunsG H v rs ∧ SeqOk rs ∧ ∀ H', Same H H' → Q (.bl true) H'
theorem ok_is_sequence (D : Df K mg "is_sequence" s_is_sequence) (T : Tx mg) (G_is_listed : Has P w K mg base 1 "is_listed" ["value", "most"] sp_is_listed) (G_is_run : Has P w K mg base 3 "is_run" ["value"] sp_is_run) :
    Has P w K mg base 4 "is_sequence" ["value"] sp_is_sequence := by
  refine has_of D sc_is_sequence (fun _ _ _ _ _ _ us hl => match us, hl with | [_], _ => rfl) (fun vs H Q E h => ?_) (fun f cdv A outer s H vs Q E hr h => ?_)
  · obtain ⟨v, r, rfl, _⟩ := h
    rfl
  · obtain ⟨v, rs, rfl, ⟨a, xs, rfl, hx, hp⟩, ⟨l4, rok, alt⟩, q⟩ := h
    have lx : xs.length = rs.length := Paired.len hp
    refine ⟨_, (pss_cons (ps_if (PW.pt (pw_or (pt_not (pt_val (pe_callH G_is_listed (hr.mono (by omega)) (by rfl) (pa_cons (pv 0) (pa_cons (pe_glI T.c_MAX_RUNS (by rfl)) pa_nil))))) (pw_or1 (pt_not (pt_val (pe_callB (cr_all rfl) (by rfl) T.n_all (by decide +kernel) (pa_cons (pe_lc (own := [("run", 1)]) rfl sc_is_sequence.nd (pi_seqV 0) (blkOk_by (N := ["value", "run", "following"]) (sc := defScope s_is_sequence) (by decide +kernel)) (fun _ _ _ _ _ => (pg_name (i := 1) sc_is_sequence.nd rfl (by first | exact Or.inl rfl | exact Or.inr rfl))) (fun _ _ _ _ _ => pts_nil) (fun _ _ _ _ _ => (pe_callH G_is_run (hr.mono (by omega)) (by rfl) (pa_cons (pv 1) pa_nil)))) pa_nil))))))) (pss_one (ps_ret pe_bl)) pss_nil)
    (pss_one (ps_ret (pe_callB (cr_all rfl) (by rfl) T.n_all (by decide +kernel) (pa_cons (pe_lc (own := [("run", 1), ("following", 2)]) rfl sc_is_sequence.nd (pi_zip1 (i := 0) (RZ.pi_zipA (by rfl) T.n_zip (pa_cons (pv 0) (pa_cons (pe_slice (SlR.or sl_list sl_tupA) (pv 0) (po_some pe_int) po_none) pa_nil))) (fun _ _ _ q => ⟨1, rfl, q⟩) (fun _ _ _ q => q)) (blkOk_by (N := ["value", "run", "following"]) (sc := defScope s_is_sequence) (by decide +kernel)) (fun _ _ _ _ _ => (pg_tupK (K := K) (n := 2) rfl rfl (pgs_cons (pg_name (i := 1) sc_is_sequence.nd rfl (by first | exact Or.inl rfl | exact Or.inr rfl)) (pgs_cons (pg_name (i := 2) sc_is_sequence.nd rfl (by first | exact Or.inl rfl | exact Or.inr rfl)) pgs_nil)))) (fun _ _ _ _ _ => pts_nil) (fun _ _ _ _ _ => (pe_cmpR op_ne (pe_ix (ix_seqK (K := K) rfl) (pv 1) pe_int (fun _ _ => rfl)) (pe_ix (ix_seqK (K := K) rfl) (pv 2) pe_int (fun _ _ => rfl)) (nomark _)))) pa_nil))))), ?_⟩
    refine ⟨_, rfl, a, xs, 400, rfl, hx, fun H1 s1 => ⟨_, rfl, iteN ?_ ?_⟩⟩
    · show (!decide ((xs.length : Int) ≤ 400)) = false
      rw [decide_eq_true (by omega)]
      rfl
    refine ⟨a, xs, rfl, hx.same s1, fun J wk L nL => lc_wk wk (fun i H' => Same H1 H' ∧ H' L = some (.lst ((List.replicate i true).map V.bl))) (fun _ _ p => p.1) ⟨same_upd nL, upd_same⟩ (fun i x H2 ex p => ?_) (fun H2 p => ?_)⟩
    · obtain ⟨sm, hL⟩ := p
      obtain ⟨r, er, hr1⟩ := Paired.at hp ex
      have hi : i < xs.length := (List.getElem?_eq_some_iff.mp ex).1
      refine ⟨rfl, yesT ⟨_, rfl, x, r, rfl, RunG.same (s1.trans sm) hr1, rok r (List.mem_of_getElem? er), fun H3 s3 => ⟨_, s3 _ _ hL, ?_, same_grow nL (sm.trans s3), ?_⟩⟩⟩
      · simp only [List.length_map, List.length_replicate]
        exact small (by omega)
      · rw [upd_same, List.replicate_succ', List.map_append]
        rfl
    · refine ⟨L, _, rfl, .of p.2, _, rfl, iteN ?_ ?_⟩
      · rw [all_rep]
        rfl
      have s2 : Same H H2 := s1.trans p.1
      refine ⟨a, xs, rfl, hx.same s2, fun J Hc sc wk M nM => ?_⟩
      have sA : Same H Hc := s2.trans sc
      refine lc_gen (n := xs.length - 1) (fun i H' => Same Hc H' ∧ H' M = some (.lst ((List.replicate i true).map V.bl))) ⟨same_upd nM, upd_same⟩ (fun i H' hi p => wk.go i H' p.1 (by omega)) (fun H' p => wk.stop H' p.1) (fun i x H3 H4 hi p y => ?_) (fun H' p => ?_)
      · obtain ⟨T', x1, x2, rfl, nT, rfl, g1, g2⟩ := wk.yld i x H3 H4 p.1 y
        obtain ⟨sm, hM⟩ := p
        have g2 := g2 (by omega)
        have sB : Same H H3 := sA.trans sm
        obtain ⟨r1, e1, v1⟩ := Paired.at hp g1
        obtain ⟨r2, e2, v2⟩ := Paired.at hp g2
        obtain ⟨t1, rfl, w1⟩ := RunG.same (sB.trans (same_upd (o := .tup [x1, x2]) nT)) v1
        obtain ⟨t2, rfl, w2⟩ := RunG.same (sB.trans (same_upd (o := .tup [_, x2]) nT)) v2
        refine ⟨T', _, rfl, .of upd_same, rfl, _, _, rfl, _, _, rfl, rfl, rfl, yesT ?_⟩
        refine ⟨_, rfl, ix0 w1 ⟨_, rfl, ix0 w2 ⟨rfl, _, same_upd nT _ _ hM, ?_, same_grow nM (sm.trans (same_upd nT)), ?_⟩⟩⟩
        · simp only [List.length_map, List.length_replicate]
          exact small (by omega)
        · rw [upd_same, List.replicate_succ', List.map_append]
          have ne : (!decide (V.str r1.1 = V.str r2.1)) = true := by
            rw [decide_eq_false (fun z => alt i r1 r2 e1 e2 (V.str.inj z))]
            rfl
          rw [ne]
          rfl
      · refine ⟨M, _, rfl, .of p.2, ?_⟩
        rw [all_rep]
        exact q _ (sA.trans p.1)
/-! checked_state: slots 0:state -/
abbrev s_checked_state : Stmt := topS 20
theorem sc_checked_state : FnScope ["state"] ["state"] (defScope s_checked_state) := ⟨rfl, rfl, rfl, by decide +kernel, rfl, by decide +kernel, by decide +kernel⟩
def sp_checked_state : Sp := fun vs H Q _ => ∃ (v : V) (st : Option Run), vs = [v] ∧ StG H v st ∧ StOk st ∧ ∀ H' v', Same H H' → StV H' v' st → Q v' H'
theorem ok_checked_state (D : Df K mg "checked_state" s_checked_state) (T : Tx mg) (G_is_state : Has P w K mg base 2 "is_state" ["value"] sp_is_state) :
    Has P w K mg base 3 "checked_state" ["state"] sp_checked_state := by
  refine has_of D sc_checked_state (fun _ _ _ _ _ _ us hl => match us, hl with | [_], _ => rfl) (fun vs H Q E h => ?_) (fun f cdv A outer s H vs Q E hr h => ?_)
  · obtain ⟨v, r, rfl, _⟩ := h
    rfl
  · obtain ⟨v, st, rfl, hv, ok, q⟩ := h
    refine ⟨_, (pss_cons (ps_if (pt_not (pt_val (pe_callH G_is_state (hr.mono (by omega)) (by rfl) (pa_cons (pv 0) pa_nil)))) (pss_one ps_never) pss_nil)
    (pss_one (ps_ret (pe_ifExp (pt_cmpR op_isN (pv 0) pe_non (nomark _)) pe_non (pe_callTy call_tuple_of (by rfl) T.n_tuple (by decide +kernel) (pa_cons (pv 0) pa_nil)))))), ?_⟩
    refine ⟨_, rfl, v, st, rfl, hv, ok, fun H1 s1 => ⟨true, rfl, iteF ?_⟩⟩
    cases st with
    | none =>
      cases hv
      exact ⟨_, rfl, rfl, _, rfl, iteP rfl (q H1 _ s1 rfl)⟩
    | some r =>
      obtain ⟨t, rfl, ht⟩ := hv
      refine ⟨_, rfl, rfl, _, rfl, iteN rfl ⟨_, rfl, t, [.str r.1, .int r.2], rfl, ?_⟩⟩
      rcases ht.same s1 with z | z
      · exact .inl ⟨.of z, fun l nl => q _ _ (s1.trans (same_upd nl)) ⟨l, rfl, upd_same⟩⟩
      · exact .inr ⟨.of z, q H1 _ s1 ⟨t, rfl, z⟩⟩
end
end UP

set_option Elab.async false
set_option linter.all false
set_option maxRecDepth 100000
set_option maxHeartbeats 4000000
namespace UP
open PySem PySem.Spec PyProof.Rows L2
section
variable {P : Program} {w : World} {K : PySem.W.Frag} {mg : Str → Option Value} {base : Heap}
def lenR (rs : List Run) : Int := (rs.map (·.2)).sum
/-! length_of: slots 0:runs 1:kind 2:count -/
abbrev s_length_of : Stmt := topS 21
theorem sc_length_of : FnScope ["runs", "kind", "count"] ["runs"] (defScope s_length_of) := ⟨rfl, rfl, rfl, by decide +kernel, rfl, by decide +kernel, by decide +kernel⟩
def sp_length_of : Sp := fun vs H Q _ => ∃ (a : Addr) (rs : List Run), vs = [.ref a] ∧ Runs H a rs ∧ rs.length ≤ 1000 ∧ ∀ H', Same H H' → Q (.int (lenR rs)) H'
theorem ok_length_of (D : Df K mg "length_of" s_length_of) (T : Tx mg) : Has P w K mg base 1 "length_of" ["runs"] sp_length_of := by
  refine has_of D sc_length_of (fun _ _ _ _ _ _ us hl => match us, hl with | [_], _ => rfl) (fun vs H Q E h => ?_) (fun f cdv A outer s H vs Q E hr h => ?_)
  · obtain ⟨v, r, rfl, _⟩ := h
    rfl
  · obtain ⟨a, rs, rfl, ⟨xs, hx, hp⟩, l4, q⟩ := h
    have lx : xs.length = rs.length := Paired.len hp
    refine ⟨_, (pss_one (ps_ret (pe_callB (cr_sum rfl) (by rfl) T.n_sum (by decide +kernel) (pa_cons (pe_lc (own := [("kind", 1), ("count", 2)]) rfl sc_length_of.nd (pi_list (pv 0)) (blkOk_by (N := ["runs", "kind", "count"]) (sc := defScope s_length_of) (by decide +kernel)) (fun _ _ _ _ _ => (pg_tupK (K := K) (n := 2) rfl rfl (pgs_cons (pg_name (i := 1) sc_length_of.nd rfl (by first | exact Or.inl rfl | exact Or.inr rfl)) (pgs_cons (pg_name (i := 2) sc_length_of.nd rfl (by first | exact Or.inl rfl | exact Or.inr rfl)) pgs_nil)))) (fun _ _ _ _ _ => pts_nil) (fun _ _ _ _ _ => (pv 2))) pa_nil)))), ?_⟩
    refine ⟨_, rfl, a, rfl, ⟨xs, .of hx⟩, fun L nL => lc_list (K := K) (a := a) (xs := xs) (fun i H' => Same H H' ∧ H' L = some (.lst (((rs.map (·.2)).take i).map V.int))) ⟨same_upd nL, upd_same⟩ (fun i H' _ p => .of (p.1 _ _ hx)) (fun i x H2 ex p => ?_) (fun H2 p => ?_)⟩
    · obtain ⟨sm, hL⟩ := p
      obtain ⟨r, er, hr1⟩ := Paired.at hp ex
      have hi : i < xs.length := (List.getElem?_eq_some_iff.mp ex).1
      obtain ⟨t, rfl, ht⟩ := RunV.same sm hr1
      refine ⟨t, _, rfl, .of ht, rfl, _, _, rfl, _, _, rfl, rfl, rfl, yesT ⟨_, rfl, _, hL, ?_, same_grow nL sm, ?_⟩⟩
      · simp only [List.length_map, List.length_take]
        exact small (by omega)
      · rw [upd_same, take_snoc (x := r.2) (by rw [List.getElem?_map, er]; rfl), List.map_append]
        rfl
    · refine ⟨L, (rs.map (fun r : Run => r.2)), rfl, .of ?_, q H2 p.1⟩
      have := p.2
      rw [List.take_of_length_le (by rw [List.length_map]; omega)] at this
      exact this
end
end UP

set_option Elab.async false
set_option linter.all false
set_option maxRecDepth 100000
set_option maxHeartbeats 4000000
namespace UP
open PySem PySem.Spec PyProof.Rows L2
/-! ### the mirror of cut -/
theorem lenR_nil : lenR [] = 0 := rfl
theorem lenR_cons (r : Run) (l : List Run) : lenR (r :: l) = r.2 + lenR l := by
  unfold lenR
  rw [List.map_cons, List.sum_cons]
theorem lenR_app (l m : List Run) : lenR (l ++ m) = lenR l + lenR m := by
  induction l with
  | nil => rw [List.nil_append, lenR_nil]; omega
  | cons r t ih => rw [List.cons_append, lenR_cons, lenR_cons, ih]; omega
theorem lenR_snoc (l : List Run) (r : Run) : lenR (l ++ [r]) = lenR l + r.2 := by
  rw [lenR_app, lenR_cons, lenR_nil]
  omega
def sizeR (b s e c : Int) : Int := (if b + c < e then b + c else e) - (if b > s then b else s)
def pieceR (b s e : Int) (r : Run) : List Run := if 0 < sizeR b s e r.2 then [(r.1, sizeR b s e r.2)] else []
def cutR (s e : Int) : Int → List Run → List Run
  | _, [] => []
  | b, r :: t => pieceR b s e r ++ cutR s e (b + r.2) t
theorem cutR_snoc (s e : Int) : ∀ (l : List Run) (b : Int) (r : Run), cutR s e b (l ++ [r]) = cutR s e b l ++ pieceR (b + lenR l) s e r
  | [], b, r => by
    show pieceR b s e r ++ [] = [] ++ pieceR (b + lenR []) s e r
    rw [lenR_nil, Int.add_zero, List.append_nil, List.nil_append]
  | x :: t, b, r => by
    show pieceR b s e x ++ cutR s e (b + x.2) (t ++ [r]) = (pieceR b s e x ++ cutR s e (b + x.2) t) ++ pieceR (b + lenR (x :: t)) s e r
    rw [cutR_snoc s e t, lenR_cons, List.append_assoc, Int.add_assoc]
theorem pieceR_len (b s e : Int) (r : Run) : (pieceR b s e r).length ≤ 1 := by
  unfold pieceR
  split <;> simp
theorem cutR_len (s e : Int) : ∀ (l : List Run) (b : Int), (cutR s e b l).length ≤ l.length
  | [], _ => Nat.le_refl _
  | r :: t, b => by
    show (pieceR b s e r ++ cutR s e (b + r.2) t).length ≤ (r :: t).length
    have h1 := pieceR_len b s e r
    have h2 := cutR_len s e t (b + r.2)
    rw [List.length_append, List.length_cons]
    omega
section
variable {P : Program} {w : World} {K : PySem.W.Frag} {mg : Str → Option Value} {base : Heap}
end
end UP

set_option Elab.async false
set_option linter.all false
set_option maxRecDepth 100000
set_option maxHeartbeats 4000000
namespace UP
open PySem PySem.Spec PyProof.Rows L2
/-! ### the mirror of the states -/
def numR : Option Run → Int
  | none => 0
  | some r => r.2
def leavR : Option Run → Str → Int → Int
  | none, _, _ => 0
  | some r, k, c => if r.1 = k then 0 else if c < r.2 then c else r.2
def stepR : Option Run → Str → Int → Option Run
  | some r, k, c => if r.1 = k then some (k, r.2 + c) else if 0 < r.2 - c then some (r.1, r.2 - c) else if r.2 - c = 0 then none else some (k, -(r.2 - c))
  | none, k, c => some (k, c)
def withR (k : Str) (n : Int) : Option Run := if n = 0 then none else some (k, n)
def stR (rs : List Run) (st : Option Run) : Option Run := rs.foldl (fun s r => stepR s r.1 r.2) st
theorem stR_snoc (l : List Run) (r : Run) (st : Option Run) : stR (l ++ [r]) st = stepR (stR l st) r.1 r.2 := by
  unfold stR
  rw [List.foldl_append]
  rfl
section
variable {P : Program} {w : World} {K : PySem.W.Frag} {mg : Str → Option Value} {base : Heap}
/-! waiting_number: slots 0:state -/
abbrev s_waiting_number : Stmt := topS 23
theorem sc_waiting_number : FnScope ["state"] ["state"] (defScope s_waiting_number) := ⟨rfl, rfl, rfl, by decide +kernel, rfl, by decide +kernel, by decide +kernel⟩
def sp_waiting_number : Sp := fun vs H Q _ => ∃ (v : V) (st : Option Run), vs = [v] ∧ StV H v st ∧ Q (.int (numR st)) H
theorem ok_waiting_number (D : Df K mg "waiting_number" s_waiting_number) : Has P w K mg base 1 "waiting_number" ["state"] sp_waiting_number := by
  refine has_of D sc_waiting_number (fun _ _ _ _ _ _ us hl => match us, hl with | [_], _ => rfl) (fun vs H Q E h => ?_) (fun f cdv A outer s₀ H vs Q E hr h => ?_)
  · obtain ⟨a, rs, rfl, _⟩ := h
    rfl
  · obtain ⟨v, st, rfl, hv, q⟩ := h
    refine ⟨_, (pss_one (ps_ret (pe_ifExp (pt_cmpR op_isN (pv 0) pe_non (nomark _)) pe_int (pe_ix ix_tup (pv 0) pe_int (fun _ _ => rfl))))), ?_⟩
    cases st with
    | none =>
      cases hv
      exact ⟨_, rfl, rfl, _, rfl, iteP rfl q⟩
    | some r =>
      obtain ⟨t, rfl, ht⟩ := hv
      exact ⟨_, rfl, rfl, _, rfl, iteN rfl ⟨_, rfl, t, _, 1, _, rfl, rfl, .of ht, at1, q⟩⟩
end
end UP

set_option Elab.async false
set_option linter.all false
set_option maxRecDepth 100000
set_option maxHeartbeats 4000000
namespace UP
open PySem PySem.Spec PyProof.Rows L2
def DfD (K : PySem.W.Frag) (mg : Str → Option Value) (x : Str) (st : Stmt) (dvs : List V) : Prop := ∃ f fd, mg x = some (.ref f) ∧ FunD K x x (defArgs st) (defBody st) (defScope st) dvs [] f fd
/-- a def whose last parameter, kw, has the default None -/
def HasD (P : Program) (w : World) (K : PySem.W.Frag) (mg : Str → Option Value) (base : Heap) (k : Nat) (x : Str) (ps : List Str) (n : Nat) (kw : Str) (sp : Sp) : Prop :=
  ∃ f fd, mg x = some (.ref f) ∧ PySem.W.keepIn K (.ref f) = true ∧ Binds K fd ps [] ∧ (∃ ds, Vals [.non] ds ∧ Binds K fd ps ds) ∧ KBn K fd ps n [kw] (fun us ws => us ++ ws) (fun vs zs => vs ++ zs) ∧ FnOk P w K mg base CX0 k f fd ps sp
section
variable {P : Program} {w : World} {K : PySem.W.Frag} {mg : Str → Option Value} {base : Heap}
theorem HasD.has {k n : Nat} {x kw : Str} {ps : List Str} {sp : Sp} (h : HasD P w K mg base k x ps n kw sp) : Has P w K mg base k x ps sp := by
  obtain ⟨f, fd, g, kp, b, _, _, F⟩ := h
  exact ⟨f, fd, g, kp, b, F⟩
theorem has_ofD {x kw : Str} {st : Stmt} {ps N : List Str} {k n : Nat} {sp : Sp} (D : DfD K mg x st [.non]) (S : FnScope N ps (defScope st)) (hpn : ps.length = n + 1)
    (hb : ∀ (T : Addr) (kV doc pm : Value) (an : Option Addr) (cdv ct : Value) (us its : List Value), us.length = n + 1 → its.length = 1 →
      ∃ k, bindArgs (PySem.W.fnOf x x (defArgs st) (defBody st) (defScope st) (.ref T) kV doc pm an cdv ct) ⟨us, []⟩ = seqItems? (.ref T) >>= k ∧ k (some its.toArray) = pure (ps.zip us))
    (hb1 : ∀ (T : Addr) (kV doc pm : Value) (an : Option Addr) (cdv ct : Value) (us its : List Value), us.length = n → its.length = 1 →
      ∃ k, bindArgs (PySem.W.fnOf x x (defArgs st) (defBody st) (defScope st) (.ref T) kV doc pm an cdv ct) ⟨us, []⟩ = seqItems? (.ref T) >>= k ∧ k (some its.toArray) = pure (ps.zip (us ++ its)))
    (hb2 : ∀ (T : Addr) (kV doc pm : Value) (an : Option Addr) (cdv ct : Value) (us its : List Value) (v : Value), us.length = n → its.length = 1 →
      ∃ k, bindArgs (PySem.W.fnOf x x (defArgs st) (defBody st) (defScope st) (.ref T) kV doc pm an cdv ct) ⟨us, [(kw, v)]⟩ = seqItems? (.ref T) >>= k ∧ k (some its.toArray) = pure (ps.zip (us ++ [v])))
    (len : ∀ vs H Q E, sp vs H Q E → vs.length = ps.length)
    (body : ∀ (f : Addr) (cdv : Value) (A : Around) (outer : List Env) (s : Shared) (H : Hp) (vs : List V) (Q : VK) (E : XK), Room k (A.deeper (envOfC x (defScope st) s.heap.objs.size f cdv)) → sp vs H Q E →
      ∃ t, PSs (cxOf CX0 P w K mg base N x (defScope st) f cdv A outer s H E).nox (defBody st) t ∧ t { nx := fun _ H' => Q .non H', rt := Q } (start N vs) H) :
    HasD P w K mg base (k + 1) x ps n kw sp := by
  obtain ⟨f, fd, g, F⟩ := D
  have B0 : Binds K fd ps [] := by
    obtain ⟨ds, v, b⟩ := F.binds1 (n + 1) 1 (ps := ps) (by intro z; cases z) (by rw [hpn]; rfl) fun T kV doc pm an cdv ct us its h1 h2 => by
      obtain ⟨k, e1, e2⟩ := hb T kV doc pm an cdv ct us its h1 h2
      refine ⟨k, e1, ?_⟩
      have h3 : its.length ≤ 1 := Nat.le_of_eq h2
      rw [e2, List.drop_of_length_le h3, List.append_nil]
    cases v
    exact b
  have B1 : ∃ ds, Vals [V.non] ds ∧ Binds K fd ps ds := by
    obtain ⟨ds, v, b⟩ := F.binds1 n 0 (ps := ps) (by intro z; cases z) (by rw [hpn]; rfl) fun T kV doc pm an cdv ct us its h1 h2 => by
      obtain ⟨k, e1, e2⟩ := hb1 T kV doc pm an cdv ct us its h1 h2
      exact ⟨k, e1, by rw [e2, List.drop_zero]⟩
    exact ⟨ds, v, b⟩
  have B2 : KBn K fd ps n [kw] (fun us ws => us ++ ws) (fun vs zs => vs ++ zs) := by
    refine ⟨fun s us ws X l1 l2 => ?_, fun r1 r2 => r1.append r2⟩
    obtain ⟨oc, od, dV, kV, doc, pm, an, cdv, ct, osl, rfl, lk, hcd, hD, _⟩ := F.ex
    rcases hD with ⟨z, _⟩ | ⟨_, T, o, its, m, rfl, lT, oT, rT⟩
    · cases z
    · match ws, l2 with
      | [v], _ =>
        obtain ⟨k, e1, e2⟩ := hb2 T kV doc pm an cdv ct us its v l1 rT.length.symm
        refine BindsTo.of_looks fun M => ?_
        show PySem.W.Looks M s.heap (bindArgs _ ⟨us, [(kw, v)]⟩) _
        rw [e1]
        exact looks_items X lT oT (.of_pure e2)
  refine ⟨f, fd, g, F.kp, B0, B1, B2, F.ok S len fun cdv A outer s H vs Q E hr h => ?_⟩
  obtain ⟨t, p, q⟩ := body f cdv A outer s H vs Q E hr h
  exact ⟨t, p.nox, q⟩
end
section
variable {X : Cx}
/-- the default taken -/
theorem pe_callDH {k n : Nat} {x kw : Str} {ps : List Str} {sp : Sp} {p pos : Pos} {e : Expr} {es : List Expr} {t : TA} (G : HasD X.prog X.w X.K X.mg X.base k x ps n kw sp) (hr : Room k X.A) (hg : Gl X x) (ha : PA X (e :: es) t)
    (hdb : (x == ("__debug__" : Str)) = false := by decide) (he : starEach (e :: es) X.env = (false, eval e X.env) :: starEach es X.env := by rfl) (hpl : (backTo pos (starEach es X.env)).any (·.1) = false := by rfl) :
    PE X (.Call (.Name x p) (e :: es) [] pos) (tCall sp [.non] E0 t) := by
  obtain ⟨f, fd, g, kp, _, ⟨ds, v, b⟩, _, F⟩ := G
  exact pe_call F hr hg g kp b v pass0 ha hdb he hpl
/-- the last one by its name -/
theorem pe_callNH {k n : Nat} {x kw : Str} {ps : List Str} {sp : Sp} {p pos : Pos} {e : Expr} {es : List Expr} {kws : List Keyword} {t tk : TA} (G : HasD X.prog X.w X.K X.mg X.base k x ps n kw sp) (hr : Room k X.A) (hg : Gl X x) (ha : PA X (e :: es) t) (hk : PK X kws tk)
    (h1 : (backToKw pos (keywordEach kws X.env)).all (·.1.isSome) = true := by rfl) (h2 : (backToKw pos (keywordEach kws X.env)).filterMap (·.1) = [kw] := by rfl) (hdb : (x == ("__debug__" : Str)) = false := by decide)
    (he : starEach (e :: es) X.env = (false, eval e X.env) :: starEach es X.env := by rfl) (hpl : ((backTo pos (starEach (e :: es) X.env)).any (·.1) || (backToKw pos (keywordEach kws X.env)).any (·.1.isNone)) = false := by rfl) :
    PE X (.Call (.Name x p) (e :: es) kws pos) (tCallN n 1 sp (fun vs zs => vs ++ zs) E0 t tk) := by
  obtain ⟨f, fd, g, kp, _, _, b, F⟩ := G
  exact pe_callN F hr hg g kp b pass0 ha hk h1 h2 hdb he hpl
end
section
variable {P : Program} {w : World} {K : PySem.W.Frag} {mg : Str → Option Value} {base : Heap}
theorem SeqOk.pos {rs : List Run} (h : SeqOk rs) : ∀ r ∈ rs, 1 ≤ r.2 := fun r m => (h.2.1 r m).2.1
theorem pieceR_pos {b s e : Int} {r x : Run} (h : x ∈ pieceR b s e r) : 1 ≤ x.2 := by
  unfold pieceR at h
  split at h
  · rename_i z
    simp only [List.mem_singleton] at h
    subst h
    show 1 ≤ sizeR b s e r.2
    omega
  · cases h
theorem cutR_pos {s e : Int} : ∀ {l : List Run} {b : Int}, ∀ x ∈ cutR s e b l, 1 ≤ x.2
  | [], _, x, h => by cases h
  | r :: t, b, x, h => by
    rcases List.mem_append.mp (show x ∈ pieceR b s e r ++ cutR s e (b + r.2) t from h) with h | h
    · exact pieceR_pos h
    · exact cutR_pos x h
end
end UP

set_option Elab.async false
set_option linter.all false
set_option maxRecDepth 100000
set_option maxHeartbeats 4000000
namespace UP
open PySem PySem.Spec PyProof.Rows L2
section
variable {P : Program} {w : World} {K : PySem.W.Frag} {mg : Str → Option Value} {base : Heap}
end
end UP

set_option Elab.async false
set_option linter.all false
set_option maxRecDepth 100000
set_option maxHeartbeats 4000000
namespace UP
open PySem PySem.Spec PyProof.Rows L2
/-! ### data -/
def dRun (r : Run) : PyData := .tuple [.str r.1, .int r.2]
theorem dp_run {K : PySem.W.Frag} {H : Hp} {v : V} {r : Run} (h : RunV H v r) : Dp K H v (dRun r) := by
  obtain ⟨t, rfl, h⟩ := h
  exact .tup (.of h) (.cons (.str _) (.cons (.int _) .nil))
theorem dp_all {K : PySem.W.Frag} {H : Hp} : ∀ {xs : List V} {rs : List Run}, Paired (RunV H) xs rs → DpAll K H xs (rs.map dRun)
  | _, _, .nil => .nil
  | _, _, .cons h t => .cons (dp_run h) (dp_all t)
theorem KindOk.str {s : Str} (h : KindOk s) : PyData.strOk s = true := by
  unfold PyData.strOk
  rw [Array.all_eq_true']
  intro c hc
  have := h.2.2 c (by simpa using hc)
  exact decide_eq_true (by omega)
theorem can_run {r : Run} (h : KindOk r.1) : (dRun r).canLay0 = true := by
  simp [dRun, PyData.canLay0, PyData.canLayAll0, h.str]
theorem can_runs : ∀ {rs : List Run}, (∀ r ∈ rs, KindOk r.1) → PyData.canLayAll0 (rs.map dRun) = true
  | [], _ => by simp [PyData.canLayAll0]
  | r :: t, h => by
    rw [List.map_cons, PyData.canLayAll0, can_run (h r (List.mem_cons_self ..)), can_runs fun x hx => h x (List.mem_cons_of_mem _ hx)]
    rfl
theorem depth_run (r : Run) : (dRun r).depth ≤ 2 := by
  simp [dRun, PyData.depth, PyData.depthAll]
theorem depth_runs : ∀ (rs : List Run), PyData.depthAll (rs.map dRun) ≤ 2
  | [] => by simp [PyData.depthAll]
  | r :: t => by
    rw [List.map_cons, PyData.depthAll]
    exact Nat.max_le.mpr ⟨depth_run r, depth_runs t⟩
theorem shaped_runs {rs : List Run} (h : ∀ r ∈ rs, KindOk r.1) : SeqAt.shaped (.list (rs.map dRun)) = true := by
  unfold SeqAt.shaped
  rw [PyData.canLay0, can_runs h, PyData.depth]
  have := depth_runs rs
  exact decide_eq_true (by omega)
theorem shaped_run {r : Run} (h : KindOk r.1) : SeqAt.shaped (dRun r) = true := by
  unfold SeqAt.shaped
  rw [can_run h]
  have := depth_run r
  exact decide_eq_true (by omega)
theorem shaped_nil : SeqAt.shaped (.list []) = true := by decide
theorem eqv_nil (rs : List Run) : PyData.eqv (.list (rs.map dRun)) (.list []) = rs.isEmpty := by
  cases rs with
  | nil => simp [PyData.eqv, PyData.eqvAll]
  | cons r t => simp [PyData.eqv, PyData.eqvAll]
theorem sb {sp : Addr} {H H' : Hp} (h : Same H H') : But sp H H' := fun b o _ e => h b o e
theorem But.free {sp : Addr} {H H' : Hp} (b : But sp H H') (z : Spr H' sp) {p : Addr} (h : H' p = none) : H p = none := by
  by_cases e : p = sp
  · subst e
    obtain ⟨_, _, _, h1, _⟩ := z
    rw [h1] at h
    cases h
  · cases q : H p with
    | none => rfl
    | some o =>
      rw [b p o e q] at h
      cases h
theorem Spr.ne {sp p : Addr} {H : Hp} (z : Spr H sp) (h : H p = none) : p ≠ sp := by
  obtain ⟨_, _, _, h1, _⟩ := z
  exact fun e => by rw [e, h1] at h; cases h
instance (s : Str) : Decidable (KindOk s) := by
  unfold KindOk
  infer_instance
section
variable {P : Program} {w : World} {K : PySem.W.Frag} {mg : Str → Option Value} {base : Heap}
end
end UP

set_option Elab.async false
set_option linter.all false
set_option maxRecDepth 100000
set_option maxHeartbeats 4000000
namespace UP
open PySem PySem.Spec PyProof.Rows L2
theorem pe_bmK {X : Cx} {K : PySem.W.Frag} {e : Expr} {c : String} {r : V → List V → Hp → VK → Prop} {to : TE} {t : TA} (h : X.K = K) (p : PE X e (tBM X.K c r to t)) : PE X e (tBM K c r to t) := h ▸ p
theorem if_by {c : TT} {t u : TS} {D : Ends} {σ : L2.St} {H : Hp} (R : Bool → Hp → Prop) (h : ∀ Q' : Bool → Hp → Prop, (∀ b H', R b H' → Q' b H') → c σ H Q') (ht : ∀ H', R true H' → t D σ H') (hu : ∀ H', R false H' → u D σ H') : tIfS c t u D σ H := by
  refine h _ fun b H' r => ?_
  cases b with
  | true => exact iteT (ht H' r)
  | false => exact iteF (hu H' r)
theorem erase_map {α β : Type} (f : α → β) : ∀ (l : List α) (i : Nat), (l.map f).eraseIdx i = (l.eraseIdx i).map f
  | [], _ => rfl
  | x :: t, 0 => rfl
  | x :: t, i + 1 => by
    simp only [List.map_cons, List.eraseIdx_cons_succ]
    rw [erase_map f t i]
def eight : List Str := ["a", "b", "c", "ab", "zz", "abcdefgh", "aa", "z"]
theorem eight_ok : ∀ s ∈ eight, KindOk s := by decide +kernel
theorem alt_snoc {l : List Run} {x : Run} (h : Alt l) (k : ∀ y, l[l.length - 1]? = some y → y.1 ≠ x.1) : Alt (l ++ [x]) := by
  intro i a b ha hb
  by_cases h1 : i + 1 < l.length
  · rw [List.getElem?_append_left (by omega)] at ha
    rw [List.getElem?_append_left h1] at hb
    exact h i a b ha hb
  · by_cases h2 : i + 1 = l.length
    · rw [List.getElem?_append_left (by omega)] at ha
      rw [List.getElem?_append_right (by omega), h2, Nat.sub_self] at hb
      cases hb
      rw [show i = l.length - 1 by omega] at ha
      exact k a ha
    · rw [List.getElem?_append_right (by omega)] at hb
      rw [List.getElem?_eq_none (by simp; omega)] at hb
      cases hb
theorem pow62 {x : Int} (h0 : 0 ≤ x) (h1 : x ≤ 1000000) : -(2 ^ 62) ≤ x ∧ x < 2 ^ 62 := by omega
theorem wide8 {m : Int} (h0 : 0 ≤ m) (h1 : m ≤ 1000000000000000000000000000000000000000000000000000000000000) : m.natAbs < 2 ^ 8000 :=
  Nat.lt_of_lt_of_le (show m.natAbs < 2 ^ 256 by omega) (Nat.pow_le_pow_right (by decide) (by decide))
section
variable {P : Program} {w : World} {K : PySem.W.Frag} {mg : Str → Option Value} {base : Heap}
end
end UP

set_option Elab.async false
set_option linter.all false
set_option maxRecDepth 100000
set_option maxHeartbeats 4000000
namespace UP
open PySem PySem.Spec PyProof.Rows L2
def scR (t : Int) (rs : List Run) : List Run := rs.map fun r => (r.1, r.2 * t)
def toldR (ws : List Run) : Option Run := match ws with
  | [] => none
  | r :: _ => some (r.1, (ws.length : Int))
def repR (k : Str) (n : Int) : Option Run := if n = 0 then none else some (k, n)
theorem repR_zero (k : Str) : repR k 0 = none := if_pos rfl
theorem repR_pos {k : Str} {n : Int} (h : 0 < n) : repR k n = some (k, n) := if_neg (by omega)
def PosO (st : Option Run) : Prop := ∀ r, st = some r → 1 ≤ r.2
theorem stepR_pos {st : Option Run} {k : Str} {c : Int} (h : PosO st) (hc : 1 ≤ c) : PosO (stepR st k c) := by
  intro r e
  cases st with
  | none =>
    cases e
    exact hc
  | some x =>
    have hx := h x rfl
    have e : (if x.1 = k then some (k, x.2 + c) else if 0 < x.2 - c then some (x.1, x.2 - c) else if x.2 - c = 0 then none else some (k, -(x.2 - c))) = some r := e
    by_cases h1 : x.1 = k
    · rw [if_pos h1] at e
      cases e
      show 1 ≤ x.2 + c
      omega
    · rw [if_neg h1] at e
      by_cases h2 : 0 < x.2 - c
      · rw [if_pos h2] at e
        cases e
        show 1 ≤ x.2 - c
        omega
      · rw [if_neg h2] at e
        by_cases h3 : x.2 - c = 0
        · rw [if_pos h3] at e
          cases e
        · rw [if_neg h3] at e
          cases e
          show 1 ≤ -(x.2 - c)
          omega
theorem stR_cons (r : Run) (l : List Run) (st : Option Run) : stR (r :: l) st = stR l (stepR st r.1 r.2) := rfl
theorem stR_pos : ∀ {rs : List Run} {st : Option Run}, PosO st → (∀ r ∈ rs, 1 ≤ r.2) → PosO (stR rs st)
  | [], _, h, _ => h
  | r :: t, st, h, k => by
    rw [stR_cons]
    exact stR_pos (stepR_pos h (k r (List.mem_cons_self ..))) fun x hx => k x (List.mem_cons_of_mem _ hx)
theorem StOk.pos {st : Option Run} (h : StOk st) : PosO st := fun r e => (h r e).2
section
variable {P : Program} {w : World} {K : PySem.W.Frag} {mg : Str → Option Value} {base : Heap}
end
end UP

set_option Elab.async false
set_option linter.all false
set_option maxRecDepth 100000
set_option maxHeartbeats 4000000
namespace UP
open PySem PySem.Spec PyProof.Rows L2
/-! ### plain data, by depth -/
def Dsc (v : V) (d : PyData) : Prop := (v = .non ∧ d = .none) ∨ (∃ b, v = .bl b ∧ d = .bool b) ∨ (∃ i, v = .int i ∧ d = .int i) ∨ ∃ s, v = .str s ∧ d = .str s
def Dt (H : Hp) : Nat → V → PyData → Prop
  | 0, v, d => Dsc v d
  | n + 1, v, d => Dsc v d ∨ (∃ a xs ds, v = .ref a ∧ H a = some (.lst xs) ∧ d = .list ds ∧ Paired (Dt H n) xs ds ∧ ds.length ≤ 100000) ∨ ∃ a xs ds, v = .ref a ∧ H a = some (.tup xs) ∧ d = .tuple ds ∧ Paired (Dt H n) xs ds ∧ ds.length ≤ 100000
theorem Dt.same {H H' : Hp} (s : Same H H') : ∀ {n : Nat} {v : V} {d : PyData}, Dt H n v d → Dt H' n v d
  | 0, _, _, h => h
  | n + 1, v, d, h => by
    rcases h with h | ⟨a, xs, ds, e, h, e2, p, l⟩ | ⟨a, xs, ds, e, h, e2, p, l⟩
    · exact .inl h
    · exact .inr (.inl ⟨a, xs, ds, e, s _ _ h, e2, Paired.imp (fun _ _ z => Dt.same s z) p, l⟩)
    · exact .inr (.inr ⟨a, xs, ds, e, s _ _ h, e2, Paired.imp (fun _ _ z => Dt.same s z) p, l⟩)
theorem dsc_ref {a : Addr} {d : PyData} (h : Dsc (.ref a) d) : False := by
  rcases h with ⟨h, _⟩ | ⟨_, h, _⟩ | ⟨_, h, _⟩ | ⟨_, h, _⟩ <;> cases h
theorem dsc_lst {v : V} {ds : List PyData} (h : Dsc v (.list ds)) : False := by
  rcases h with ⟨_, h⟩ | ⟨_, _, h⟩ | ⟨_, _, h⟩ | ⟨_, _, h⟩ <;> cases h
theorem dsc_tup {v : V} {ds : List PyData} (h : Dsc v (.tuple ds)) : False := by
  rcases h with ⟨_, h⟩ | ⟨_, _, h⟩ | ⟨_, _, h⟩ | ⟨_, _, h⟩ <;> cases h
theorem dsc_one {v v' : V} {d : PyData} (h : Dsc v d) (h' : Dsc v' d) : v = v' := by
  rcases h with ⟨e, z⟩ | ⟨x, e, z⟩ | ⟨x, e, z⟩ | ⟨x, e, z⟩ <;> subst z <;> rcases h' with ⟨e', z⟩ | ⟨y, e', z⟩ | ⟨y, e', z⟩ | ⟨y, e', z⟩ <;> cases z <;> rw [e, e']
theorem kit_no {K : PySem.W.Frag} {c : String} (h1 : kitB c "list" = some false) (h2 : kitB c "tuple" = some false) : PySem.W.kitAny K (.type c) [.type "list", .type "tuple"] = some false :=
  kitAny_cons (b := false) (kit_ty h1) (fun _ => kitAny_cons (b := false) (kit_ty h2) (fun _ => rfl) (fun z => nomatch z)) (fun z => nomatch z)
theorem ixL {K : PySem.W.Frag} {x y : V} {H : Hp} {Q : VK} (h : rIxL K x y H Q) : rIx K x y H Q := .inl h
theorem ixT {K : PySem.W.Frag} {x y : V} {H : Hp} {Q : VK} (h : rIxT K x y H Q) : rIx K x y H Q := .inr (.inl h)
section
variable {P : Program} {w : World} {K : PySem.W.Frag} {mg : Str → Option Value} {base : Heap}
end
end UP

set_option Elab.async false
set_option linter.all false
set_option maxRecDepth 100000
set_option maxHeartbeats 4000000
namespace UP
open PySem PySem.Spec PyProof.Rows L2
/-! ### a walk over one object that stays, whatever else is changed -/
structure WkA (J : It) (H : Hp) (a : Addr) (xs : List V) : Prop where
  go : ∀ i H', H' a = H a → i < xs.length → J.go i H'
  stop : ∀ H', H' a = H a → J.stop xs.length H'
  yld : ∀ i x H' H'', H' a = H a → J.yld i H' x H'' → H'' = H' ∧ xs[i]? = some x
def iSeqA (i : Nat) : TI := fun σ H R => ∃ a xs, σ[i]? = some (some (.ref a)) ∧ Sq2 H a xs ∧ ∀ J, WkA J H a xs → R J H
section
variable {X : Cx}
theorem wka_list {K : PySem.W.Frag} {H : Hp} {a : Addr} {xs : List V} (h : H a = some (.lst xs)) : WkA (Itl K a) H a xs :=
  ⟨fun i H' e hi => ⟨xs, xs[i], .of (e.trans h), List.getElem?_eq_getElem hi⟩, fun H' e => ⟨xs, .of (e.trans h), Nat.le_refl _⟩, fun i x H' H'' e y => ⟨y.1, y.2 xs (.of (e.trans h))⟩⟩
theorem wka_tup {K : PySem.W.Frag} {H : Hp} {a : Addr} {xs : List V} (h : H a = some (.tup xs)) : WkA (Itt K a) H a xs :=
  ⟨fun i H' e hi => ⟨xs, xs[i], .of (e.trans h), List.getElem?_eq_getElem hi⟩, fun H' e => ⟨xs, .of (e.trans h), Nat.le_refl _⟩, fun i x H' H'' e y => ⟨y.1, y.2 xs (.of (e.trans h))⟩⟩
theorem pi_seqA (i : Nat) {x : Str} {pos : Pos} {tg : Expr} (hN : X.N[i]? = some x := by rfl) (hv : Vis X.env.scope x := by first | exact Or.inl rfl | exact Or.inr (Or.inl rfl) | exact Or.inr (Or.inr rfl)) (hd : (x == ("__debug__" : Str)) = false := by decide)
    (hc : (x == ("__classdict__" : Str)) = false := by decide) : PI X tg (.Name x pos) (iSeqA i) := by
  refine ⟨fun pins s σ H R I hw => ?_⟩
  obtain ⟨a, xs, e, h, k⟩ := hw
  rcases h with h | h
  · exact (pi_list (pe_var hN hv hd hc)).run pins s σ H R I ⟨_, e, a, rfl, ⟨xs, .of h⟩, k _ (wka_list h)⟩
  · exact (pi_tup (pe_var hN hv hd hc)).run pins s σ H R I ⟨_, e, a, rfl, ⟨xs, .of h⟩, k _ (wka_tup h)⟩
end
theorem lc_wka {J : It} {H0 H1 : Hp} {a : Addr} {xs : List V} {g : TG} {tt : TT} {te : TE} {vs : List Nat} {σ : L2.St} {D : Addr} {Qd : Hp → Prop} (wk : WkA J H0 a xs) (Pv : Nat → Hp → Prop) (hsm : ∀ i H, Pv i H → H a = H0 a) (h0 : Pv 0 (upd H1 D (.lst [])))
    (hs : ∀ i x H, xs[i]? = some x → Pv i H → g x (wipe σ vs) H fun σ2 H2 => wipe σ2 vs = wipe σ vs ∧ tt σ2 H2 fun b H3 =>
      if b = true then te σ2 H3 fun y H4 => ∃ acc, H4 D = some (.lst acc) ∧ acc.length < sizeLine ∧ Pv (i + 1) (upd H4 D (.lst (acc ++ [y]))) else Pv (i + 1) H3) (hd : ∀ H, Pv xs.length H → Qd H) :
    ∃ W : Nat → Nat → Hp → Prop, (∃ m, W 0 m (upd H1 D (.lst []))) ∧ ∀ i m H, W i m H →
      (J.stop i H ∧ Qd H) ∨ (J.go i H ∧ ∃ Nx : Hp → Prop, (∀ H', Nx H' → ∃ m', m' < m ∧ W (i + 1) m' H') ∧ ∀ x H', J.yld i H x H' → g x (wipe σ vs) H' fun σ2 H2 => wipe σ2 vs = wipe σ vs ∧ tt σ2 H2 fun b H3 =>
        if b = true then te σ2 H3 fun y H4 => ∃ acc, H4 D = some (.lst acc) ∧ acc.length < sizeLine ∧ Nx (upd H4 D (.lst (acc ++ [y]))) else Nx H3) := by
  refine lc_gen Pv h0 (fun i H hi p => wk.go i H (hsm i H p) hi) (fun H p => wk.stop H (hsm _ H p)) (fun i x H H' hi p y => ?_) hd
  obtain ⟨e, ex⟩ := wk.yld i x H H' (hsm i H p) y
  subst e
  exact hs i x _ ex p
theorem for_gen {J : It} {n : Nat} {H : Hp} {g : TG} {tb : TS} {D : Ends} {σ : L2.St} (Pv : Nat → L2.St → Hp → Prop) (h0 : Pv 0 σ H) (hg : ∀ i σ H, i < n → Pv i σ H → J.go i H) (hst : ∀ σ H, Pv n σ H → J.stop n H)
    (hs : ∀ i x σ H H', i < n → Pv i σ H → J.yld i H x H' → g x σ H' fun σ2 H2 => tb { D with nx := Pv (i + 1), ct := Pv (i + 1), bk := D.nx } σ2 H2) (hd : ∀ σ H, Pv n σ H → D.nx σ H) :
    ∃ W : Nat → Nat → L2.St → Hp → Prop, (∃ m, W 0 m σ H) ∧ ∀ i m σ H, W i m σ H →
      (J.stop i H ∧ D.nx σ H) ∨ (J.go i H ∧ ∃ N : L2.St → Hp → Prop, (∀ σ' H', N σ' H' → ∃ m', m' < m ∧ W (i + 1) m' σ' H') ∧ ∀ x H', J.yld i H x H' → g x σ H' fun σ2 H2 => tb { D with nx := N, ct := N, bk := D.nx } σ2 H2) := by
  refine ⟨fun i m σ H => m = n - i ∧ i ≤ n ∧ Pv i σ H, ⟨n, by omega, Nat.zero_le _, h0⟩, ?_⟩
  rintro i m σ H ⟨rfl, hi, p⟩
  by_cases hlt : i < n
  · exact Or.inr ⟨hg i σ H hlt p, Pv (i + 1), fun σ' H' p' => ⟨n - (i + 1), by omega, rfl, hlt, p'⟩, fun x H' y => hs i x σ H H' hlt p y⟩
  · have e : i = n := by omega
    subst e
    exact Or.inl ⟨hst σ H p, hd σ H p⟩
theorem for_wka {J : It} {H0 H : Hp} {a : Addr} {xs : List V} {g : TG} {tb : TS} {D : Ends} {σ : L2.St} (wk : WkA J H0 a xs) (Pv : Nat → L2.St → Hp → Prop) (hsm : ∀ i σ H, Pv i σ H → H a = H0 a) (h0 : Pv 0 σ H)
    (hs : ∀ i x σ H, xs[i]? = some x → Pv i σ H → g x σ H fun σ2 H2 => tb { D with nx := Pv (i + 1), ct := Pv (i + 1), bk := D.nx } σ2 H2) (hd : ∀ σ H, Pv xs.length σ H → D.nx σ H) :
    ∃ W : Nat → Nat → L2.St → Hp → Prop, (∃ m, W 0 m σ H) ∧ ∀ i m σ H, W i m σ H →
      (J.stop i H ∧ D.nx σ H) ∨ (J.go i H ∧ ∃ N : L2.St → Hp → Prop, (∀ σ' H', N σ' H' → ∃ m', m' < m ∧ W (i + 1) m' σ' H') ∧ ∀ x H', J.yld i H x H' → g x σ H' fun σ2 H2 => tb { D with nx := N, ct := N, bk := D.nx } σ2 H2) := by
  refine for_gen Pv h0 (fun i σ H hi p => wk.go i H (hsm i σ H p) hi) (fun σ H p => wk.stop H (hsm _ σ H p)) (fun i x σ H H' hi p y => ?_) hd
  obtain ⟨e, ex⟩ := wk.yld i x H H' (hsm i σ H p) y
  subst e
  exact hs i x σ _ ex p
theorem Sq2.eq {H H' : Hp} {a : Addr} {xs : List V} (h : Sq2 H a xs) (s : Same H H') : H' a = H a := h.elim (fun z => (s _ _ z).trans z.symm) (fun z => (s _ _ z).trans z.symm)
/-! ### data without its dress -/
def Sim (N : Addr → Prop) (H : Hp) : Nat → V → PyData → Prop
  | 0, v, d => Dsc v d
  | n + 1, v, d => Dsc v d ∨ ∃ a xs ds, v = .ref a ∧ N a ∧ Sq2 H a xs ∧ d = .list ds ∧ Paired (Sim N H n) xs ds ∧ ds.length ≤ 1000
theorem Sim.keep {N N' : Addr → Prop} {H H' : Hp} (hn : ∀ a, N a → N' a) (hk : ∀ a o, N a → H a = some o → H' a = some o) : ∀ {n : Nat} {v : V} {d : PyData}, Sim N H n v d → Sim N' H' n v d
  | 0, _, _, h => h
  | n + 1, v, d, h => by
    rcases h with h | ⟨a, xs, ds, e, na, hx, e2, p, l⟩
    · exact .inl h
    · exact .inr ⟨a, xs, ds, e, hn a na, hx.elim (fun z => .inl (hk _ _ na z)) (fun z => .inr (hk _ _ na z)), e2, Paired.imp (fun _ _ z => Sim.keep hn hk z) p, l⟩
theorem Sim.dsc {N : Addr → Prop} {H : Hp} {v : V} {d : PyData} : ∀ {n : Nat}, Dsc v d → Sim N H n v d
  | 0, h => h
  | n + 1, h => .inl h
section
variable {P : Program} {w : World} {K : PySem.W.Frag} {mg : Str → Option Value} {base : Heap}
end
end UP

set_option Elab.async false
set_option linter.all false
set_option maxRecDepth 100000
set_option maxHeartbeats 4000000
namespace UP
open PySem PySem.Spec PyProof.Rows L2
/-! ### waiting items one by one -/
def plS (ws : List Run) (k : Str) (n : Nat) : List Run := match ws with
  | [] => [(k, (n : Int))]
  | r :: t => if r.1 = k then (r :: t) ++ [(k, (n : Int))] else t
def plP (ws : List Run) (k : Str) (n : Nat) : List (Int × Int) := match ws with
  | [] => []
  | r :: _ => if r.1 = k then [] else [(r.2, (n : Int))]
def plA (ws : List Run) (n : Nat) : List Str → List Run
  | [] => ws
  | k :: t => plA (plS ws k n) (n + 1) t
def psR (ws : List Run) (n : Nat) : List Str → List (Int × Int)
  | [] => []
  | k :: t => plP ws k n ++ psR (plS ws k n) (n + 1) t
theorem plA_snoc : ∀ (l : List Str) (ws : List Run) (n : Nat) (k : Str), plA ws n (l ++ [k]) = plS (plA ws n l) k (n + l.length)
  | [], ws, n, k => rfl
  | x :: t, ws, n, k => by
    show plA (plS ws x n) (n + 1) (t ++ [k]) = plS (plA (plS ws x n) (n + 1) t) k (n + (x :: t).length)
    rw [plA_snoc t, List.length_cons, show n + 1 + t.length = n + (t.length + 1) by omega]
theorem psR_snoc : ∀ (l : List Str) (ws : List Run) (n : Nat) (k : Str), psR ws n (l ++ [k]) = psR ws n l ++ plP (plA ws n l) k (n + l.length)
  | [], ws, n, k => by
    show plP ws k n ++ [] = [] ++ plP ws k (n + 0)
    rw [List.append_nil, List.nil_append, Nat.add_zero]
  | x :: t, ws, n, k => by
    show plP ws x n ++ psR (plS ws x n) (n + 1) (t ++ [k]) = (plP ws x n ++ psR (plS ws x n) (n + 1) t) ++ plP (plA (plS ws x n) (n + 1) t) k (n + (x :: t).length)
    rw [psR_snoc t, List.length_cons, List.append_assoc, show n + 1 + t.length = n + (t.length + 1) by omega]
def plMs (ws : List Run) (ks : List Str) : List (List Run) := (List.range (ks.length + 1)).map fun m => plA ws 0 (ks.take m)
theorem plMs_snoc (ws : List Run) (l : List Str) (k : Str) : plMs ws (l ++ [k]) = plMs ws l ++ [plA ws 0 (l ++ [k])] := by
  unfold plMs
  rw [List.length_append, List.length_cons, List.length_nil, Nat.zero_add, List.range_succ, List.map_append]
  congr 1
  · refine List.map_congr_left fun m hm => ?_
    have : m ≤ l.length := by
      have := List.mem_range.mp hm
      omega
    rw [List.take_append_of_le_length this]
  · rw [List.map_singleton, List.take_of_length_le (by rw [List.length_append]; exact Nat.le_refl _)]
theorem plMs_nil (ws : List Run) : plMs ws [] = [ws] := rfl
theorem plMs_len (ws : List Run) (l : List Str) : (plMs ws l).length = l.length + 1 := by
  unfold plMs
  rw [List.length_map, List.length_range]
theorem plS_len (ws : List Run) (k : Str) (n : Nat) : (plS ws k n).length ≤ ws.length + 1 := by
  cases ws with
  | nil => exact Nat.le_refl _
  | cons r t =>
    show (if r.1 = k then (r :: t) ++ [(k, (n : Int))] else t).length ≤ _
    split
    · rw [List.length_append]
      exact Nat.le_refl _
    · rw [List.length_cons]
      omega
theorem plA_len : ∀ (l : List Str) (ws : List Run) (n : Nat), (plA ws n l).length ≤ ws.length + l.length
  | [], ws, n => Nat.le_refl _
  | k :: t, ws, n => by
    have h1 := plA_len t (plS ws k n) (n + 1)
    have h2 := plS_len ws k n
    show (plA (plS ws k n) (n + 1) t).length ≤ _
    rw [List.length_cons]
    omega
theorem plP_len (ws : List Run) (k : Str) (n : Nat) : (plP ws k n).length ≤ 1 := by
  cases ws with
  | nil => exact Nat.zero_le _
  | cons r t =>
    show (if r.1 = k then [] else [(r.2, (n : Int))]).length ≤ 1
    split <;> simp
theorem psR_len : ∀ (l : List Str) (ws : List Run) (n : Nat), (psR ws n l).length ≤ l.length
  | [], ws, n => Nat.le_refl _
  | k :: t, ws, n => by
    have h1 := psR_len t (plS ws k n) (n + 1)
    have h2 := plP_len ws k n
    show (plP ws k n ++ psR (plS ws k n) (n + 1) t).length ≤ _
    rw [List.length_append, List.length_cons]
    omega
theorem plS_kinds {ws : List Run} {k : Str} {n : Nat} (h : ∀ r ∈ ws, KindOk r.1) (hk : KindOk k) : ∀ r ∈ plS ws k n, KindOk r.1 := by
  intro r hr
  cases ws with
  | nil =>
    rw [List.mem_singleton.mp (show r ∈ [(k, (n : Int))] from hr)]
    exact hk
  | cons x t =>
    have hr : r ∈ (if x.1 = k then (x :: t) ++ [(k, (n : Int))] else t) := hr
    by_cases e : x.1 = k
    · rw [if_pos e] at hr
      rcases List.mem_append.mp hr with z | z
      · exact h r z
      · rw [List.mem_singleton.mp z]
        exact hk
    · rw [if_neg e] at hr
      exact h r (List.mem_cons_of_mem _ hr)
theorem plA_kinds : ∀ {l : List Str} {ws : List Run} {n : Nat}, (∀ r ∈ ws, KindOk r.1) → (∀ k ∈ l, KindOk k) → ∀ r ∈ plA ws n l, KindOk r.1
  | [], _, _, h, _ => h
  | k :: t, ws, n, h, hl => plA_kinds (l := t) (plS_kinds h (hl k (List.mem_cons_self ..))) fun x hx => hl x (List.mem_cons_of_mem _ hx)
def w0R : Option Run → List Run
  | none => []
  | some r => List.replicate r.2.toNat (r.1, -1)
def itR (rs : List Run) : List Str := rs.flatMap fun r => List.replicate r.2.toNat r.1
theorem itR_snoc (l : List Run) (r : Run) : itR (l ++ [r]) = itR l ++ List.replicate r.2.toNat r.1 := by
  unfold itR
  rw [List.flatMap_append]
  simp
def PV (H : Hp) (v : V) (p : Int × Int) : Prop := ∃ t, v = .ref t ∧ H t = some (.tup [.int p.1, .int p.2])
theorem PV.same {H H' : Hp} {v : V} {p : Int × Int} (s : Same H H') (h : PV H v p) : PV H' v p := by
  obtain ⟨t, e, h⟩ := h
  exact ⟨t, e, s _ _ h⟩
theorem PV.grow {H : Hp} {D : Addr} {acc acc' : List V} {v : V} {p : Int × Int} (hD : H D = some (.lst acc)) (h : PV H v p) : PV (upd H D (.lst acc')) v p := by
  obtain ⟨t, e, h⟩ := h
  refine ⟨t, e, ?_⟩
  rw [upd_ne (ne_of h hD (by intro q; cases q))]
  exact h
theorem Runs.grow {H : Hp} {D a : Addr} {acc acc' : List V} {ws : List Run} (hD : H D = some (.lst acc)) (n : a ≠ D) (h : Runs H a ws) : Runs (upd H D (.lst acc')) a ws := by
  obtain ⟨xs, hx, hp⟩ := h
  refine ⟨xs, ?_, prs_grow hD hp⟩
  rw [upd_ne n]
  exact hx
/-- a list of runs apart from two others -/
def WL (H : Hp) (M N : Addr) (v : V) (ws : List Run) : Prop := ∃ a, v = .ref a ∧ a ≠ M ∧ a ≠ N ∧ Runs H a ws
theorem WL.same {H H' : Hp} {M N : Addr} {v : V} {ws : List Run} (s : Same H H') (h : WL H M N v ws) : WL H' M N v ws := by
  obtain ⟨a, e, n1, n2, h⟩ := h
  exact ⟨a, e, n1, n2, h.same s⟩
/-- what the play keeps -/
structure Pl (H0 H : Hp) (W M N : Addr) (ws0 : List Run) (ks ls : List Str) : Prop where
  sm : Same H0 H
  wm : W ≠ M
  wn : W ≠ N
  wr : Runs H W (plA ws0 0 ls)
  ms : ∃ xs, H M = some (.lst xs) ∧ Paired (WL H M N) xs (plMs ws0 ks)
  ps : ∃ ys, H N = some (.lst ys) ∧ Paired (PV H) ys (psR ws0 0 ls)
theorem flat_one {α : Type} (x : α) : ∀ n : Nat, (List.replicate n [x]).flatten = List.replicate n x
  | 0 => rfl
  | n + 1 => by
    rw [List.replicate_succ, List.flatten_cons, flat_one x n]
    rfl
theorem paired_rep {α β : Type} {F : α → β → Prop} {a : α} {b : β} (h : F a b) : ∀ n : Nat, Paired F (List.replicate n a) (List.replicate n b)
  | 0 => .nil
  | n + 1 => .cons h (paired_rep h n)
theorem len_items {rs : List Run} (h : ∀ r ∈ rs, 1 ≤ r.2 ∧ r.2 ≤ 1000) : (itR rs).length ≤ 1000 * rs.length := by
  induction rs with
  | nil => exact Nat.le_refl _
  | cons r t ih =>
    have e : itR (r :: t) = List.replicate r.2.toNat r.1 ++ itR t := rfl
    have h1 := h r (List.mem_cons_self ..)
    have h2 := ih fun x hx => h x (List.mem_cons_of_mem _ hx)
    rw [e, List.length_append, List.length_replicate, List.length_cons]
    omega
end UP

set_option Elab.async false
set_option linter.all false
set_option maxRecDepth 100000
set_option maxHeartbeats 4000000
namespace UP
open PySem PySem.Spec PyProof.Rows L2
section
variable {P : Program} {w : World} {K : PySem.W.Frag} {mg : Str → Option Value} {base : Heap}
end
end UP

set_option Elab.async false
set_option linter.all false
set_option maxRecDepth 100000
set_option maxHeartbeats 4000000
namespace UP
open PySem PySem.Spec PyProof.Rows L2
/-! ### one arrival after the other -/
def stI (ks : List Str) (st : Option Run) : Option Run := ks.foldl (fun s k => stepR s k 1) st
theorem stI_app (l m : List Str) (st : Option Run) : stI (l ++ m) st = stI m (stI l st) := List.foldl_append ..
theorem step_same {r : Run} {k : Str} {c : Int} (h : r.1 = k) : stepR (some r) k c = some (k, r.2 + c) := if_pos h
theorem step_other {r : Run} {k : Str} {c : Int} (h : r.1 ≠ k) : stepR (some r) k c = if 0 < r.2 - c then some (r.1, r.2 - c) else if r.2 - c = 0 then none else some (k, -(r.2 - c)) := if_neg h
theorem step_step {s : Option Run} {k : Str} {c : Int} (h : PosO s) (hc : 1 ≤ c) : stepR (stepR s k 1) k c = stepR s k (1 + c) := by
  cases s with
  | none => exact step_same (r := (k, 1)) rfl
  | some r =>
    have r1 := h r rfl
    by_cases e : r.1 = k
    · rw [step_same e, step_same e, step_same (r := (k, r.2 + 1)) rfl]
      show some (k, r.2 + 1 + c) = _
      rw [Int.add_assoc]
    · rw [step_other e, step_other e]
      by_cases h1 : 0 < r.2 - 1
      · rw [if_pos h1, step_other (r := (r.1, r.2 - 1)) e]
        show (if 0 < r.2 - 1 - c then some (r.1, r.2 - 1 - c) else if r.2 - 1 - c = 0 then none else some (k, -(r.2 - 1 - c))) = _
        rw [show r.2 - 1 - c = r.2 - (1 + c) by omega]
      · have e2 : r.2 - 1 = 0 := by omega
        rw [if_neg h1, if_pos e2, if_neg (by omega), if_neg (by omega)]
        show some (k, c) = _
        rw [show -(r.2 - (1 + c)) = c by omega]
theorem it_step : ∀ (n : Nat) (s : Option Run) (k : Str), PosO s → stI (List.replicate (n + 1) k) s = stepR s k ((n : Int) + 1)
  | 0, s, k, _ => rfl
  | n + 1, s, k, h => by
    show stI (List.replicate (n + 1) k) (stepR s k 1) = _
    rw [it_step n _ k (stepR_pos h (by decide)), step_step h (by omega)]
    congr 1
    omega
theorem st_items : ∀ (rs : List Run) (st : Option Run), PosO st → (∀ r ∈ rs, 1 ≤ r.2) → stR rs st = stI (itR rs) st
  | [], st, _, _ => rfl
  | r :: t, st, h, k => by
    have c1 := k r (List.mem_cons_self ..)
    have e : itR (r :: t) = List.replicate r.2.toNat r.1 ++ itR t := rfl
    obtain ⟨n, hn⟩ : ∃ n : Nat, r.2.toNat = n + 1 := ⟨r.2.toNat - 1, by omega⟩
    rw [e, stI_app, hn, it_step n _ _ h, stR_cons, show ((n : Int) + 1) = r.2 by omega]
    exact st_items t _ (stepR_pos h c1) fun x hx => k x (List.mem_cons_of_mem _ hx)
theorem take_app {α : Type} : ∀ (l m : List α) (n : Nat), (l ++ m).take n = l.take n ++ m.take (n - l.length)
  | [], m, n => by
    rw [List.nil_append, List.take_nil, List.nil_append, List.length_nil, Nat.sub_zero]
  | x :: t, m, 0 => by
    rw [List.take_zero, List.take_zero, Nat.zero_sub, List.take_zero]
    rfl
  | x :: t, m, n + 1 => by
    rw [List.cons_append, List.take_succ_cons, take_app t m n, List.take_succ_cons, List.length_cons, Nat.add_sub_add_right]
    rfl
theorem it_app (l m : List Run) : itR (l ++ m) = itR l ++ itR m := List.flatMap_append ..
theorem cut_items (e : Int) : ∀ (rs : List Run) (b : Int), 0 ≤ b → (∀ r ∈ rs, 1 ≤ r.2) → itR (cutR 0 e b rs) = (itR rs).take (e - b).toNat
  | [], b, _, _ => by
    show ([] : List Str) = ([] : List Str).take _
    rw [List.take_nil]
  | r :: t, b, hb, k => by
    have c1 := k r (List.mem_cons_self ..)
    have ih := cut_items e t (b + r.2) (by omega) fun x hx => k x (List.mem_cons_of_mem _ hx)
    have e1 : cutR 0 e b (r :: t) = pieceR b 0 e r ++ cutR 0 e (b + r.2) t := rfl
    have e2 : itR (r :: t) = List.replicate r.2.toNat r.1 ++ itR t := rfl
    rw [e1, it_app, ih, e2, take_app, List.length_replicate, List.take_replicate, show (e - (b + r.2)).toNat = (e - b).toNat - r.2.toNat by omega]
    congr 1
    have es : sizeR b 0 e r.2 = (if b + r.2 < e then b + r.2 else e) - b := by
      unfold sizeR
      by_cases h0 : b > 0
      · rw [if_pos h0]
      · rw [if_neg h0, show b = 0 by omega]
    by_cases hs : 0 < sizeR b 0 e r.2
    · rw [show pieceR b 0 e r = [(r.1, sizeR b 0 e r.2)] from if_pos hs]
      show List.replicate (sizeR b 0 e r.2).toNat r.1 ++ [] = _
      rw [List.append_nil]
      congr 1
      rw [es] at hs ⊢
      split <;> omega
    · rw [show pieceR b 0 e r = [] from if_neg hs]
      rw [es] at hs
      rw [show min (e - b).toNat r.2.toNat = 0 by split at hs <;> omega]
      rfl
theorem len_it : ∀ (rs : List Run), (∀ r ∈ rs, 1 ≤ r.2) → ((itR rs).length : Int) = lenR rs
  | [], _ => rfl
  | r :: t, k => by
    have c1 := k r (List.mem_cons_self ..)
    have ih := len_it t fun x hx => k x (List.mem_cons_of_mem _ hx)
    have e2 : itR (r :: t) = List.replicate r.2.toNat r.1 ++ itR t := rfl
    rw [e2, List.length_append, List.length_replicate, lenR_cons]
    omega
/-! ### what is told of waiting items -/
def Uni (ws : List Run) : Prop := ∀ x ∈ ws, ∀ y ∈ ws, x.1 = y.1
theorem uni_plS {ws : List Run} {k : Str} {n : Nat} (h : Uni ws) : Uni (plS ws k n) := by
  cases ws with
  | nil =>
    intro x hx y hy
    rw [List.mem_singleton.mp (show x ∈ [(k, (n : Int))] from hx), List.mem_singleton.mp (show y ∈ [(k, (n : Int))] from hy)]
  | cons r t =>
    by_cases e : r.1 = k
    · rw [show plS (r :: t) k n = (r :: t) ++ [(k, (n : Int))] from if_pos e]
      have all : ∀ x ∈ (r :: t) ++ [(k, (n : Int))], x.1 = k := by
        intro x hx
        rcases List.mem_append.mp hx with z | z
        · rw [h x z r (List.mem_cons_self ..)]
          exact e
        · rw [List.mem_singleton.mp z]
      intro x hx y hy
      rw [all x hx, all y hy]
    · rw [show plS (r :: t) k n = t from if_neg e]
      exact fun x hx y hy => h x (List.mem_cons_of_mem _ hx) y (List.mem_cons_of_mem _ hy)
theorem told_plS {ws : List Run} {k : Str} {n : Nat} (h : Uni ws) : toldR (plS ws k n) = stepR (toldR ws) k 1 := by
  cases ws with
  | nil => rfl
  | cons r t =>
    by_cases e : r.1 = k
    · rw [show plS (r :: t) k n = (r :: t) ++ [(k, (n : Int))] from if_pos e]
      show some (r.1, (((r :: t) ++ [(k, (n : Int))]).length : Int)) = stepR (some (r.1, ((r :: t).length : Int))) k 1
      rw [step_same (r := (r.1, ((r :: t).length : Int))) e, List.length_append, e]
      show some (k, (((r :: t).length + 1 : Nat) : Int)) = some (k, ((r :: t).length : Int) + 1)
      rw [Int.natCast_add]
      rfl
    · rw [show plS (r :: t) k n = t from if_neg e]
      show toldR t = stepR (some (r.1, ((r :: t).length : Int))) k 1
      rw [step_other (r := (r.1, ((r :: t).length : Int))) e]
      cases t with
      | nil => rfl
      | cons x u =>
        have ex : x.1 = r.1 := h x (List.mem_cons_of_mem _ (List.mem_cons_self ..)) r (List.mem_cons_self ..)
        show some (x.1, ((x :: u).length : Int)) = if 0 < ((r :: x :: u).length : Int) - 1 then some (r.1, ((r :: x :: u).length : Int) - 1) else _
        rw [List.length_cons, List.length_cons, List.length_cons, if_pos (by omega), ex]
        congr 2
        omega
theorem told_plA : ∀ (l : List Str) (ws : List Run) (n : Nat), Uni ws → toldR (plA ws n l) = stI l (toldR ws)
  | [], _, _, _ => rfl
  | k :: t, ws, n, h => by
    show toldR (plA (plS ws k n) (n + 1) t) = stI t (stepR (toldR ws) k 1)
    rw [told_plA t _ _ (uni_plS h), told_plS h]
theorem uni_w0 (st : Option Run) : Uni (w0R st) := by
  cases st with
  | none => intro x hx; cases hx
  | some r =>
    intro x hx y hy
    rw [List.eq_of_mem_replicate hx, List.eq_of_mem_replicate hy]
theorem told_w0 {st : Option Run} (h : PosO st) : toldR (w0R st) = st := by
  cases st with
  | none => rfl
  | some r =>
    have r1 := h r rfl
    obtain ⟨n, hn⟩ : ∃ n : Nat, r.2.toNat = n + 1 := ⟨r.2.toNat - 1, by omega⟩
    show toldR (List.replicate r.2.toNat (r.1, (-1 : Int))) = some r
    rw [hn, List.replicate_succ]
    show some (r.1, (((r.1, (-1 : Int)) :: List.replicate n (r.1, (-1 : Int))).length : Int)) = some r
    rw [List.length_cons, List.length_replicate, show ((n + 1 : Nat) : Int) = r.2 by omega]
/-! ### all counts multiplied -/
def scO (t : Int) (st : Option Run) : Option Run := st.map fun r => (r.1, r.2 * t)
theorem lt_sc {a b t : Int} (ht : 0 < t) : a * t < b * t ↔ a < b :=
  ⟨fun h => by
    by_cases z : a < b
    · exact z
    · have := Int.mul_le_mul_of_nonneg_right (show b ≤ a by omega) (Int.le_of_lt ht)
      omega, fun h => Int.mul_lt_mul_of_pos_right h ht⟩
theorem size_sc {b s e c t : Int} (ht : 0 < t) : sizeR (b * t) (s * t) (e * t) (c * t) = sizeR b s e c * t := by
  unfold sizeR
  rw [← Int.add_mul, Int.sub_mul]
  congr 1
  · by_cases h : b + c < e
    · rw [if_pos h, if_pos ((lt_sc ht).mpr h)]
    · rw [if_neg h, if_neg fun z => h ((lt_sc ht).mp z)]
  · by_cases h : b > s
    · rw [if_pos h, if_pos ((lt_sc ht).mpr h)]
    · rw [if_neg h, if_neg fun z => h ((lt_sc ht).mp z)]
theorem pos_sc {a t : Int} (ht : 0 < t) : 0 < a * t ↔ 0 < a := by
  have := lt_sc (a := 0) (b := a) ht
  rw [Int.zero_mul] at this
  exact this
theorem piece_sc {b s e t : Int} {r : Run} (ht : 0 < t) : pieceR (b * t) (s * t) (e * t) (r.1, r.2 * t) = scR t (pieceR b s e r) := by
  unfold pieceR
  show (if 0 < sizeR (b * t) (s * t) (e * t) (r.2 * t) then [(r.1, sizeR (b * t) (s * t) (e * t) (r.2 * t))] else []) = _
  rw [size_sc ht]
  by_cases h : 0 < sizeR b s e r.2
  · rw [if_pos h, if_pos ((pos_sc ht).mpr h)]
    rfl
  · rw [if_neg h, if_neg fun z => h ((pos_sc ht).mp z)]
    rfl
theorem cut_sc {s e t : Int} (ht : 0 < t) : ∀ (rs : List Run) (b : Int), cutR (s * t) (e * t) (b * t) (scR t rs) = scR t (cutR s e b rs)
  | [], _ => rfl
  | r :: u, b => by
    have ih := cut_sc (s := s) (e := e) ht u (b + r.2)
    show pieceR (b * t) (s * t) (e * t) (r.1, r.2 * t) ++ cutR (s * t) (e * t) (b * t + r.2 * t) (scR t u) = scR t (pieceR b s e r ++ cutR s e (b + r.2) u)
    rw [← Int.add_mul, ih, piece_sc ht]
    unfold scR
    rw [List.map_append]
theorem step_sc {st : Option Run} {k : Str} {c t : Int} (ht : 0 < t) : stepR (scO t st) k (c * t) = scO t (stepR st k c) := by
  cases st with
  | none => rfl
  | some r =>
    show stepR (some (r.1, r.2 * t)) k (c * t) = _
    by_cases e : r.1 = k
    · rw [step_same (r := (r.1, r.2 * t)) e, step_same e]
      show some (k, r.2 * t + c * t) = some (k, (r.2 + c) * t)
      rw [Int.add_mul]
    · rw [step_other (r := (r.1, r.2 * t)) e, step_other e]
      show (if 0 < r.2 * t - c * t then some (r.1, r.2 * t - c * t) else if r.2 * t - c * t = 0 then none else some (k, -(r.2 * t - c * t))) = _
      rw [← Int.sub_mul]
      by_cases h : 0 < r.2 - c
      · rw [if_pos h, if_pos ((pos_sc ht).mpr h)]
        rfl
      · rw [if_neg h, if_neg fun z => h ((pos_sc ht).mp z)]
        by_cases h2 : r.2 - c = 0
        · rw [if_pos h2, h2, Int.zero_mul, if_pos rfl]
          rfl
        · have h3 : (r.2 - c) * t ≠ 0 := Int.mul_ne_zero h2 (by omega)
          rw [if_neg h2, if_neg h3]
          show some (k, -((r.2 - c) * t)) = some (k, -(r.2 - c) * t)
          rw [Int.neg_mul]
theorem st_sc {t : Int} (ht : 0 < t) : ∀ (rs : List Run) (st : Option Run), stR (scR t rs) (scO t st) = scO t (stR rs st)
  | [], _ => rfl
  | r :: u, st => by
    show stR (scR t u) (stepR (scO t st) r.1 (r.2 * t)) = scO t (stR u (stepR st r.1 r.2))
    rw [step_sc ht, st_sc ht u]
theorem len_sc {t : Int} : ∀ (rs : List Run), lenR (scR t rs) = lenR rs * t
  | [] => by
    show (0 : Int) = 0 * t
    rw [Int.zero_mul]
  | r :: u => by
    show lenR ((r.1, r.2 * t) :: scR t u) = _
    rw [lenR_cons, lenR_cons, len_sc u, Int.add_mul]
/-- the multiplied state at a multiplied moment -/
theorem whole_sc {t : Int} {rs : List Run} {st : Option Run} {p : Nat} (ht : 0 < t) (h : PosO st) (k : ∀ r ∈ rs, 1 ≤ r.2) :
    stR (cutR 0 ((p : Int) * t) 0 (scR t rs)) (scO t st) = scO t (toldR (plA (w0R st) 0 ((itR rs).take p))) := by
  have e := cut_sc (s := 0) (e := (p : Int)) ht rs 0
  rw [Int.zero_mul] at e
  rw [e, st_sc ht, told_plA _ _ _ (uni_w0 st), told_w0 h, st_items _ _ h cutR_pos, cut_items _ _ _ (Int.le_refl _) k, Int.sub_zero, Int.toNat_natCast]
end UP

set_option Elab.async false
set_option linter.all false
set_option maxRecDepth 100000
set_option maxHeartbeats 4000000
namespace UP
open PySem PySem.Spec PyProof.Rows L2
theorem room70 {A : Around} {k : Nat} (hr : Room k A) : A.units + 70 < cLine := by
  have := hr.un
  omega
theorem call_list_ofK {X : Cx} {K : PySem.W.Frag} (h : X.K = K) : CallR X (.type "list") (fun xs H Q => ∃ p ys, xs = [.ref p] ∧ (SqL K H p ys ∨ SqT K H p ys) ∧ ∀ l, H l = none → Q (.ref l) (upd H l (.lst ys))) := by
  subst h
  exact call_list_of
/-! ### data that a repr takes -/
structure Nice (w n : Nat) (d : PyData) : Prop where
  can : d.canLay0 = true
  dep : d.depth ≤ n
  sho : d.showable = true
  lea : d.leavesShort 100 = true
  wei : d.weight ≤ w
theorem Nice.mono {w w' n n' : Nat} {d : PyData} (h : Nice w n d) (h1 : w ≤ w') (h2 : n ≤ n') : Nice w' n' d := ⟨h.can, Nat.le_trans h.dep h2, h.sho, h.lea, Nat.le_trans h.wei h1⟩
theorem Nice.fits {w n : Nat} {d : PyData} (h : Nice w n d) (hw : w ≤ 150000) (hn : n ≤ 64) : d.showable = true ∧ SeqAt.shaped d = true ∧ d.shown.length ≤ sizeLine := by
  refine ⟨h.sho, ?_, ?_⟩
  · unfold SeqAt.shaped
    rw [h.can]
    have := h.dep
    exact decide_eq_true (by omega)
  · have h1 := PyData.shown_le 100 (by decide) d h.lea
    have h2 := h.wei
    have h3 : d.shown.length ≤ 16000000 := by omega
    exact Nat.le_trans h3 (by decide)
theorem nice_none : Nice 0 0 .none := ⟨rfl, Nat.le_refl _, rfl, rfl, Nat.le_refl _⟩
theorem nice_str {s : Str} (h : KindOk s) : Nice 8 0 (.str s) := by
  refine ⟨?_, Nat.le_refl _, rfl, ?_, h.2.1⟩
  · rw [PyData.canLay0]
    exact h.str
  · rw [PyData.leavesShort, List.all_eq_true]
    intro c hc
    have := h.2.2 c hc
    exact decide_eq_true (by omega)
theorem nice_int {i : Int} (h : i.natAbs < 10 ^ 60) : Nice 201 0 (.int i) := by
  have h2 : i.natAbs < 2 ^ 200 := Nat.lt_of_lt_of_le h (by decide)
  have h3 : i.natAbs.log2 < 200 := by
    by_cases z : i.natAbs = 0
    · rw [z]
      decide
    · exact (Nat.log2_lt z).mpr h2
  refine ⟨by rw [PyData.canLay0], Nat.le_refl _, ?_, ?_, ?_⟩
  · rw [PyData.showable]
    exact decide_eq_true (by omega)
  · rw [PyData.leavesShort]
    refine decide_eq_true ?_
    have e := int_text_length_le10 (k := 60) (by decide) h
    show (Str.ofString (toString i)).length ≤ 100
    rw [PySem.ofString_length]
    omega
  · rw [PyData.weight]
    split <;> omega
theorem nice_items {w n : Nat} : ∀ {ds : List PyData}, (∀ d ∈ ds, Nice w n d) → PyData.canLayAll0 ds = true ∧ PyData.depthAll ds ≤ n ∧ PyData.showableAll ds = true ∧ PyData.leavesShortAll 100 ds = true ∧ PyData.weightAll ds ≤ (w + 1) * ds.length
  | [], _ => ⟨rfl, Nat.zero_le _, rfl, rfl, Nat.zero_le _⟩
  | d :: t, h => by
    have h1 := h d (List.mem_cons_self ..)
    obtain ⟨a, b, c, e, f⟩ := nice_items (ds := t) fun x hx => h x (List.mem_cons_of_mem _ hx)
    refine ⟨?_, ?_, ?_, ?_, ?_⟩
    · rw [PyData.canLayAll0, h1.can, a]
      rfl
    · rw [PyData.depthAll]
      exact Nat.max_le.mpr ⟨h1.dep, b⟩
    · rw [PyData.showableAll, h1.sho, c]
      rfl
    · rw [PyData.leavesShortAll, h1.lea, e]
      rfl
    · have h2 := h1.wei
      rw [PyData.weightAll, List.length_cons, Nat.mul_succ]
      omega
theorem nice_list {w n : Nat} {ds : List PyData} (h : ∀ d ∈ ds, Nice w n d) : Nice ((w + 1) * ds.length) (n + 1) (.list ds) := by
  obtain ⟨a, b, c, e, f⟩ := nice_items h
  exact ⟨by rw [PyData.canLay0]; exact a, by rw [PyData.depth]; omega, by rw [PyData.showable]; exact c, by rw [PyData.leavesShort]; exact e, by rw [PyData.weight]; exact f⟩
theorem nice_tup {w n : Nat} {ds : List PyData} (h : ∀ d ∈ ds, Nice w n d) : Nice ((w + 1) * ds.length) (n + 1) (.tuple ds) := by
  obtain ⟨a, b, c, e, f⟩ := nice_items h
  exact ⟨by rw [PyData.canLay0]; exact a, by rw [PyData.depth]; omega, by rw [PyData.showable]; exact c, by rw [PyData.leavesShort]; exact e, by rw [PyData.weight]; exact f⟩
/-- v stands for d at H and at every heap that keeps H -/
def DpS (K : PySem.W.Frag) (H : Hp) (v : V) (d : PyData) : Prop := ∀ H', Same H H' → Dp K H' v d
theorem DpS.same {K : PySem.W.Frag} {H H' : Hp} {v : V} {d : PyData} (s : Same H H') (h : DpS K H v d) : DpS K H' v d := fun H2 s2 => h H2 (s.trans s2)
theorem dps_all {K : PySem.W.Frag} {H : Hp} {F : PyData → Prop} : ∀ {xs : List V}, (∀ x ∈ xs, ∃ d, DpS K H x d ∧ F d) → ∃ ds, (∀ H', Same H H' → DpAll K H' xs ds) ∧ ds.length = xs.length ∧ ∀ d ∈ ds, F d
  | [], _ => ⟨[], fun _ _ => .nil, rfl, fun d h => by cases h⟩
  | x :: t, h => by
    obtain ⟨d, h1, h2⟩ := h x (List.mem_cons_self ..)
    obtain ⟨ds, a, b, c⟩ := dps_all (xs := t) fun y hy => h y (List.mem_cons_of_mem _ hy)
    refine ⟨d :: ds, fun H' s => .cons (h1 H' s) (a H' s), congrArg Nat.succ b, fun z hz => ?_⟩
    rcases List.mem_cons.mp hz with e | e
    · rw [e]
      exact h2
    · exact c z e
theorem dps_seq {K : PySem.W.Frag} {H : Hp} {a : Addr} {xs : List V} {w n : Nat} (hx : Sq2 H a xs) (h : ∀ x ∈ xs, ∃ d, DpS K H x d ∧ Nice w n d) : ∃ d, DpS K H (.ref a) d ∧ Nice ((w + 1) * xs.length) (n + 1) d := by
  obtain ⟨ds, h1, h2, h3⟩ := dps_all h
  rcases hx with z | z
  · exact ⟨.list ds, fun H' s => .lst (.of (s _ _ z)) (h1 H' s), by rw [← h2]; exact nice_list h3⟩
  · exact ⟨.tuple ds, fun H' s => .tup (.of (s _ _ z)) (h1 H' s), by rw [← h2]; exact nice_tup h3⟩
theorem dps_run {K : PySem.W.Frag} {H : Hp} {v : V} {r : Run} (h : RunG H v r) (k : KindOk r.1) (c : r.2.natAbs < 10 ^ 60) : ∃ d, DpS K H v d ∧ Nice 404 1 d := by
  obtain ⟨t, rfl, h⟩ := h
  have := dps_seq (K := K) (w := 201) (n := 0) h fun x hx => by
    rcases List.mem_cons.mp hx with e | e
    · rw [e]
      exact ⟨.str r.1, fun _ _ => .str _, (nice_str k).mono (by decide) (Nat.le_refl _)⟩
    · rw [List.mem_singleton.mp e]
      exact ⟨.int r.2, fun _ _ => .int _, nice_int c⟩
  exact this
theorem dps_runs {K : PySem.W.Frag} {H : Hp} {v : V} {rs : List Run} (h : RunsG H v rs) (k : ∀ r ∈ rs, KindOk r.1 ∧ r.2.natAbs < 10 ^ 60) (l : rs.length ≤ 100) : ∃ d, DpS K H v d ∧ Nice 41000 2 d := by
  obtain ⟨a, xs, rfl, hx, hp⟩ := h
  have lx : xs.length = rs.length := Paired.len hp
  obtain ⟨d, h1, h2⟩ := dps_seq (K := K) (w := 404) (n := 1) hx fun x hx => by
    obtain ⟨i, hi, e⟩ := List.mem_iff_getElem.mp hx
    obtain ⟨r, er, hr⟩ := Paired.at hp (List.getElem?_eq_getElem hi)
    rw [e] at hr
    have := k r (List.mem_of_getElem? er)
    exact dps_run hr this.1 this.2
  exact ⟨d, h1, h2.mono (by rw [lx]; omega) (Nat.le_refl _)⟩
theorem dps_st {K : PySem.W.Frag} {H : Hp} {v : V} {st : Option Run} (h : StG H v st) (k : ∀ r, st = some r → KindOk r.1 ∧ r.2.natAbs < 10 ^ 60) : ∃ d, DpS K H v d ∧ Nice 41000 2 d := by
  cases st with
  | none =>
    cases h
    exact ⟨.none, fun _ _ => .non, nice_none.mono (by decide) (by decide)⟩
  | some r =>
    obtain ⟨d, h1, h2⟩ := dps_run (K := K) h (k r rfl).1 (k r rfl).2
    exact ⟨d, h1, h2.mono (by decide) (by decide)⟩
theorem dps_two {K : PySem.W.Frag} {H : Hp} {a : Addr} {x y : V} (h : H a = some (.lst [x, y])) (hx : ∃ d, DpS K H x d ∧ Nice 41000 2 d) (hy : ∃ d, DpS K H y d ∧ Nice 41000 2 d) : ∃ d, DpS K H (.ref a) d ∧ Nice 82002 3 d := by
  have := dps_seq (K := K) (a := a) (xs := [x, y]) (w := 41000) (n := 2) (.inl h) fun z hz => by
    rcases List.mem_cons.mp hz with e | e
    · rw [e]
      exact hx
    · rw [List.mem_singleton.mp e]
      exact hy
  exact this
/-! ### dressed and undressed -/
def dP (r : Run) : PyData := .list [.str r.1, .int r.2]
def dSq (rs : List Run) : PyData := .list (rs.map dP)
def dSt : Option Run → PyData
  | none => .none
  | some r => dP r
theorem sim_pair {N : Addr → Prop} {H : Hp} {n : Nat} (r : Run) : Paired (Sim N H n) [V.str r.1, V.int r.2] [PyData.str r.1, PyData.int r.2] := .cons (Sim.dsc (.inr (.inr (.inr ⟨_, rfl, rfl⟩)))) (.cons (Sim.dsc (.inr (.inr (.inl ⟨_, rfl, rfl⟩)))) .nil)
theorem sim_run {H : Hp} {sp : Addr} {v : V} {r : Run} {n : Nat} (z : Spr H sp) (h : RunV H v r) : Sim (· ≠ sp) H (n + 1) v (dP r) := by
  obtain ⟨t, rfl, h⟩ := h
  obtain ⟨_, _, _, hs, _⟩ := z
  exact .inr ⟨t, _, _, rfl, ne_of h hs (by intro q; cases q), .inr h, rfl, sim_pair r, Nat.le_of_ble_eq_true rfl⟩
theorem sim_seq {H : Hp} {sp a : Addr} {rs : List Run} (z : Spr H sp) (h : Runs H a rs) (l : rs.length ≤ 1000) : Sim (· ≠ sp) H 2 (.ref a) (dSq rs) := by
  have na := Runs.ne z h
  obtain ⟨xs, hx, hp⟩ := h
  refine .inr ⟨a, xs, _, rfl, na, .inl hx, rfl, ?_, by rw [List.length_map]; exact l⟩
  have gen : ∀ {xs : List V} {rs : List Run}, Paired (RunV H) xs rs → Paired (Sim (· ≠ sp) H 1) xs (rs.map dP) := by
    intro xs rs h
    induction h with
    | nil => exact .nil
    | cons h _ ih => exact .cons (sim_run z h) ih
  exact gen hp
theorem sim_st {H : Hp} {sp : Addr} {v : V} {st : Option Run} (z : Spr H sp) (h : StV H v st) : Sim (· ≠ sp) H 2 v (dSt st) := by
  cases st with
  | none =>
    cases h
    exact .inl (.inl ⟨rfl, rfl⟩)
  | some r => exact sim_run z h
theorem sim_one {N : Addr → Prop} {H : Hp} {n : Nat} {v : V} {r : Run} (h : Sim N H (n + 1) v (dP r)) : RunG H v r := by
  rcases h with h | ⟨a, xs, ds, rfl, _, hx, e, p, _⟩
  · exact (dsc_lst h).elim
  · cases e
    have scal : ∀ {m : Nat} {x : V} {s : Str}, Sim N H m x (.str s) → x = .str s := by
      intro m x s h
      have h : Dsc x (.str s) := by
        cases m with
        | zero => exact h
        | succ m =>
          rcases h with h | ⟨_, _, _, _, _, _, e, _⟩
          · exact h
          · cases e
      rcases h with ⟨_, e⟩ | ⟨_, _, e⟩ | ⟨_, _, e⟩ | ⟨y, e1, e⟩ <;> cases e
      exact e1
    have scai : ∀ {m : Nat} {x : V} {s : Int}, Sim N H m x (.int s) → x = .int s := by
      intro m x s h
      have h : Dsc x (.int s) := by
        cases m with
        | zero => exact h
        | succ m =>
          rcases h with h | ⟨_, _, _, _, _, _, e, _⟩
          · exact h
          · cases e
      rcases h with ⟨_, e⟩ | ⟨_, _, e⟩ | ⟨y, e1, e⟩ | ⟨_, _, e⟩ <;> cases e
      exact e1
    cases p with
    | cons h1 p1 =>
      cases p1 with
      | cons h2 p2 =>
        cases p2
        rw [scal h1, scai h2] at hx
        exact ⟨a, rfl, hx⟩
theorem sim_all {N : Addr → Prop} {H : Hp} : ∀ (rs : List Run) (xs : List V), Paired (Sim N H 1) xs (rs.map dP) → Paired (RunG H) xs rs
  | [], xs, h => by
    cases h
    exact .nil
  | r :: t, xs, h => by
    cases h with
    | cons h1 h2 => exact .cons (sim_one h1) (sim_all t _ h2)
theorem sim_runs {N : Addr → Prop} {H : Hp} {v : V} {rs : List Run} (h : Sim N H 2 v (dSq rs)) : RunsG H v rs := by
  rcases h with h | ⟨a, xs, ds, rfl, _, hx, e, p, _⟩
  · exact (dsc_lst h).elim
  · cases e
    refine ⟨a, xs, rfl, hx, ?_⟩
    exact sim_all rs xs p
theorem sim_stg {N : Addr → Prop} {H : Hp} {v : V} {st : Option Run} (h : Sim N H 2 v (dSt st)) : StG H v st := by
  cases st with
  | none =>
    rcases h with h | ⟨_, _, _, _, _, _, e, _⟩
    · rcases h with ⟨e, _⟩ | ⟨_, _, e⟩ | ⟨_, _, e⟩ | ⟨_, _, e⟩
      · exact e
      all_goals cases e
    · cases e
  | some r => exact sim_one h
/-! ### one by one -/
theorem at_moment {rs : List Run} {st : Option Run} {m : Nat} (h : PosO st) (k : ∀ r ∈ rs, 1 ≤ r.2) : stR (cutR 0 (m : Int) 0 rs) st = toldR (plA (w0R st) 0 ((itR rs).take m)) := by
  rw [told_plA _ _ _ (uni_w0 st), told_w0 h, st_items _ _ h cutR_pos, cut_items _ _ _ (Int.le_refl _) k, Int.sub_zero, Int.toNat_natCast]
theorem at_end {rs : List Run} {st : Option Run} (h : PosO st) (k : ∀ r ∈ rs, 1 ≤ r.2) : stR rs st = toldR (plA (w0R st) 0 (itR rs)) := by
  rw [told_plA _ _ _ (uni_w0 st), told_w0 h, st_items _ _ h k]
theorem plMs_get (ws : List Run) (ks : List Str) {n : Nat} (h : n ≤ ks.length) : (plMs ws ks)[n]? = some (plA ws 0 (ks.take n)) := by
  unfold plMs
  rw [List.getElem?_map, List.getElem?_range (by omega)]
  rfl
def dO : Option Run → PyData
  | none => .none
  | some r => dRun r
theorem dt_st {H : Hp} {v : V} {st : Option Run} {n : Nat} (h : StV H v st) : Dt H (n + 1) v (dO st) := by
  cases st with
  | none =>
    cases h
    exact .inl (.inl ⟨rfl, rfl⟩)
  | some r =>
    obtain ⟨t, rfl, h⟩ := h
    refine .inr (.inr ⟨t, _, _, rfl, h, rfl, .cons ?_ (.cons ?_ .nil), Nat.le_of_ble_eq_true rfl⟩)
    · cases n with
      | zero => exact .inr (.inr (.inr ⟨_, rfl, rfl⟩))
      | succ m => exact .inl (.inr (.inr (.inr ⟨_, rfl, rfl⟩)))
    · cases n with
      | zero => exact .inr (.inr (.inl ⟨_, rfl, rfl⟩))
      | succ m => exact .inl (.inr (.inr (.inl ⟨_, rfl, rfl⟩)))
theorem w0_len {st : Option Run} (h : ∀ r, st = some r → r.2 ≤ 1000) : (w0R st).length ≤ 1000 := by
  cases st with
  | none => exact Nat.zero_le _
  | some r =>
    have := h r rfl
    show (List.replicate r.2.toNat (r.1, (-1 : Int))).length ≤ 1000
    rw [List.length_replicate]
    omega
theorem w0_kinds {st : Option Run} (h : StOk st) : ∀ r ∈ w0R st, KindOk r.1 := by
  cases st with
  | none => intro r h; cases h
  | some x =>
    intro r hr
    rw [List.eq_of_mem_replicate hr]
    exact (h x rfl).1
theorem it_kinds {rs : List Run} (h : ∀ r ∈ rs, KindOk r.1) : ∀ k ∈ itR rs, KindOk k := by
  intro k hk
  obtain ⟨r, h1, h2⟩ := List.mem_flatMap.mp hk
  rw [List.eq_of_mem_replicate h2]
  exact h r h1
end UP

set_option Elab.async false
set_option linter.all false
set_option maxRecDepth 100000
set_option maxHeartbeats 4000000
namespace UP
open PySem PySem.Spec PyProof.Rows L2
/-! ### the reel: a list of two lists of ints and two ints -/
def Reel (H : Hp) (p : Addr) : Prop := ∃ (g c : Addr) (gs cs : List Int) (n s : Int), H p = some (.lst [.ref g, .ref c, .int n, .int s]) ∧ H g = some (.lst (gs.map V.int)) ∧ H c = some (.lst (cs.map V.int)) ∧ gs.length ≤ 63 ∧ (∀ x ∈ gs, 0 ≤ x) ∧ 0 < cs.length ∧ cs.length ≤ 64 ∧ 0 ≤ n ∧ 0 ≤ s ∧ s < 170141183460469231731687303715884105727
def Off (H : Hp) (p D : Addr) : Prop := ∃ (g c : Addr) (n s : Int), H p = some (.lst [.ref g, .ref c, .int n, .int s]) ∧ D ≠ p ∧ D ≠ g ∧ D ≠ c
theorem not_ints {g c : Addr} {n s : Int} {l : List Int} : (HO.lst [.ref g, .ref c, .int n, .int s]) ≠ .lst (l.map V.int) := by
  intro h
  have h := HO.lst.inj h
  cases l with
  | nil => cases h
  | cons x t => cases h
theorem Reel.off {H : Hp} {p D : Addr} (z : Reel H p) (n : H D = none) : Off H p D := by
  obtain ⟨g, c, gs, cs, i, s, hp, hg, hc, _⟩ := z
  exact ⟨g, c, i, s, hp, fun e => by (rw [e, hp] at n; cases n), fun e => by (rw [e, hg] at n; cases n), fun e => by (rw [e, hc] at n; cases n)⟩
theorem Reel.ne {H : Hp} {p D : Addr} (z : Reel H p) (n : H D = none) : D ≠ p := by
  obtain ⟨_, _, _, _, _, h, _⟩ := z.off n
  exact h
theorem Off.ne {H : Hp} {p D : Addr} (z : Off H p D) : D ≠ p := by
  obtain ⟨_, _, _, _, _, h, _⟩ := z
  exact h
theorem Reel.same {H H' : Hp} {p : Addr} (z : Reel H p) (s : Same H H') : Reel H' p := by
  obtain ⟨g, c, gs, cs, i, t, hp, hg, hc, r⟩ := z
  exact ⟨g, c, gs, cs, i, t, s _ _ hp, s _ _ hg, s _ _ hc, r⟩
theorem Off.same {H H' : Hp} {p D : Addr} (z : Off H p D) (s : Same H H') : Off H' p D := by
  obtain ⟨g, c, i, t, hp, r⟩ := z
  exact ⟨g, c, i, t, s _ _ hp, r⟩
theorem Off.upd {H : Hp} {p D D' : Addr} {o : HO} (z : Off H p D) (n : D' ≠ p) : Off (upd H D' o) p D := by
  obtain ⟨g, c, i, t, hp, r⟩ := z
  exact ⟨g, c, i, t, by rw [upd_ne n.symm]; exact hp, r⟩
theorem Reel.upd {H : Hp} {p D : Addr} {x : HO} (z : Reel H p) (o : Off H p D) : Reel (upd H D x) p := by
  obtain ⟨g, c, gs, cs, i, t, hp, hg, hc, r⟩ := z
  obtain ⟨g', c', i', t', hp', n1, n2, n3⟩ := o
  rw [hp] at hp'
  cases hp'
  exact ⟨g, c, gs, cs, i, t, by rw [upd_ne n1.symm]; exact hp, by rw [upd_ne n2.symm]; exact hg, by rw [upd_ne n3.symm]; exact hc, r⟩
/-- all but the reel stays, and what was not of the reel is not of it -/
structure RB (p : Addr) (H H' : Hp) : Prop where
  but : But p H H'
  off : ∀ D o, H D = some o → Off H p D → Off H' p D
theorem RB.refl {p : Addr} {H : Hp} : RB p H H := ⟨But.refl, fun _ _ _ h => h⟩
theorem RB.trans {p : Addr} {H H1 H2 : Hp} (a : RB p H H1) (b : RB p H1 H2) : RB p H H2 := ⟨a.but.trans b.but, fun D o e h => b.off D o (a.but D o h.ne e) (a.off D o e h)⟩
theorem RB.of {p : Addr} {H H' : Hp} (s : Same H H') : RB p H H' := ⟨sb s, fun _ _ _ h => h.same s⟩
theorem RB.free {p q : Addr} {H H' : Hp} (b : RB p H H') (z : Reel H' p) (h : H' q = none) : H q = none := by
  by_cases e : q = p
  · exact absurd e (z.ne h)
  · cases r : H q with
    | none => rfl
    | some o =>
      rw [b.but q o e r] at h
      cases h
theorem RB.grow {p D : Addr} {H H' : Hp} {x : HO} (b : RB p H H') (n : H D = none) (o : Off H' p D) : RB p H (L2.upd H' D x) := ⟨fun q r e h => by
    rw [upd_ne (ne_of_none h n)]
    exact b.but q r e h, fun E r h k => (b.off E r h k).upd o.ne⟩
theorem RB.run {p : Addr} {H H' : Hp} {v : V} {r : Run} (b : RB p H H') (z : Reel H p) (h : RunV H v r) : RunV H' v r := by
  obtain ⟨t, e, h⟩ := h
  obtain ⟨_, _, _, _, _, _, hp, _⟩ := z
  exact ⟨t, e, b.but _ _ (ne_of h hp (by intro q; cases q)) h⟩
theorem RB.st {p : Addr} {H H' : Hp} {v : V} {st : Option Run} (b : RB p H H') (z : Reel H p) (h : StV H v st) : StV H' v st := by
  cases st with
  | none => exact h
  | some r => exact b.run z h
theorem RB.strs {p a : Addr} {H H' : Hp} {ks : List Str} (b : RB p H H') (z : Reel H p) (h : H a = some (.lst (ks.map V.str))) : H' a = some (.lst (ks.map V.str)) := by
  obtain ⟨_, _, _, _, _, _, hp, _⟩ := z
  refine b.but _ _ (ne_of h hp fun q => ?_) h
  have q := HO.lst.inj q
  cases ks with
  | nil => cases q
  | cons x t => cases q
theorem RB.tup {p a : Addr} {H H' : Hp} {xs : List V} (b : RB p H H') (z : Reel H p) (h : H a = some (.tup xs)) : H' a = some (.tup xs) := by
  obtain ⟨_, _, _, _, _, _, hp, _⟩ := z
  exact b.but _ _ (ne_of h hp (by intro q; cases q)) h
/-! ### lists of ints -/
theorem dp_intl {K : PySem.W.Frag} {H : Hp} : ∀ (l : List Int), DpAll K H (l.map V.int) (l.map PyData.int)
  | [] => .nil
  | x :: t => .cons (.int x) (dp_intl t)
theorem can_intl : ∀ (l : List Int), PyData.canLayAll0 (l.map PyData.int) = true
  | [] => by simp [PyData.canLayAll0]
  | x :: t => by
    rw [List.map_cons, PyData.canLayAll0, can_intl t]
    simp [PyData.canLay0]
theorem depth_intl : ∀ (l : List Int), PyData.depthAll (l.map PyData.int) ≤ 1
  | [] => by simp [PyData.depthAll]
  | x :: t => by
    rw [List.map_cons, PyData.depthAll]
    exact Nat.max_le.mpr ⟨by simp [PyData.depth], depth_intl t⟩
theorem shaped_intl (l : List Int) : SeqAt.shaped (.list (l.map PyData.int)) = true := by
  unfold SeqAt.shaped
  rw [PyData.canLay0, can_intl l, PyData.depth]
  have := depth_intl l
  exact decide_eq_true (by omega)
theorem eqv_nilI (l : List Int) : PyData.eqv (.list (l.map PyData.int)) (.list []) = l.isEmpty := by
  cases l with
  | nil => simp [PyData.eqv, PyData.eqvAll]
  | cons r t => simp [PyData.eqv, PyData.eqvAll]
theorem cut_dropR (xs : List V) (r : Int) (h0 : 0 ≤ r) (h1 : r ≤ xs.length) : cutV xs (some r) none = xs.drop r.toNat := by
  have e : HT.sIx xs.length 0 (some r) = r.toNat := by
    have := HT.sIx_nat xs.length 0 r.toNat
    rw [show ((r.toNat : Nat) : Int) = r by omega] at this
    omega
  unfold cutV
  rw [e, HT.sIx_none, List.take_of_length_le (by rw [List.length_drop]; exact Nat.le_refl _)]
theorem atI_ofR {α : Type} {l : List α} {i : Int} {x : α} (h0 : 0 ≤ i) (h : l[i.toNat]? = some x) : atI l i = some x := by
  have e : i = (i.toNat : Int) := by omega
  rw [e]
  exact atI_nat h
theorem at40 {α : Type} {x y z u : α} : atI [x, y, z, u] 0 = some x := rfl
theorem at41 {α : Type} {x y z u : α} : atI [x, y, z, u] 1 = some y := rfl
theorem at42 {α : Type} {x y z u : α} : atI [x, y, z, u] 2 = some z := rfl
theorem at43 {α : Type} {x y z u : α} : atI [x, y, z, u] 3 = some u := rfl
section
variable {P : Program} {w : World} {K : PySem.W.Frag} {mg : Str → Option Value} {base : Heap}
/-! _law_draw: slots 0:reel 1:many 2:extra 3:stir 4:rest -/
abbrev s_law_draw : Stmt := topS 31
theorem sc_law_draw : FnScope ["reel", "many", "extra", "stir", "rest"] ["reel", "many"] (defScope s_law_draw) := ⟨rfl, rfl, rfl, by decide +kernel, rfl, by decide +kernel, by decide +kernel⟩
def sp_law_draw : Sp := fun vs H Q _ => ∃ (p : Addr) (m : Int), vs = [.ref p, .int m] ∧ Reel H p ∧ 1 ≤ m ∧ m.natAbs < 2 ^ 8000 ∧ ∀ H' r, RB p H H' → Reel H' p → 0 ≤ r → r < m → Q (.int r) H'
theorem p127 : (2 : Int) ^ ((64 : Int).toNat) * 2 ^ ((63 : Int).toNat) - 1 = 170141183460469231731687303715884105727 := by decide +kernel
theorem ok_law_draw (D : Df K mg "_law_draw" s_law_draw) (T : Tx mg) : Has P w K mg base 1 "_law_draw" ["reel", "many"] sp_law_draw := by
  refine has_of D sc_law_draw (fun _ _ _ _ _ _ us hl => match us, hl with | [_, _], _ => rfl) (fun vs H Q E h => ?_) (fun f cdv A outer s₀ H vs Q E hr h => ?_)
  · obtain ⟨a, rs, rfl, _⟩ := h
    rfl
  · obtain ⟨p, m, rfl, z, m1, m2, q⟩ := h
    have z0 := z
    obtain ⟨g, c, gs, cs, n, s, hp, hg, hc, lg, g0, lc, lc2, n0, s0, s1⟩ := z
    refine ⟨_, (pss_cons (ps_if (pt_cmpR (op_neD hr.units) (pe_ix ix_list (pv 0) pe_int (fun _ _ => rfl)) (pe_lst pa_nil) (nomark _)) (pss_cons (ps_set (i := 4) sc_law_draw.nd rfl (by first | exact Or.inl rfl | exact Or.inr rfl) (pe_ix ix_list (pe_ix ix_list (pv 0) pe_int (fun _ _ => rfl)) pe_int (fun _ _ => rfl)))
    (pss_cons (ps_asg (pe_op op_cat (pe_op op_rep (pe_lst (pa_cons (pe_op op_fdivW (pv 4) (pv 1)) pa_nil)) (pe_callTy call_int1 (by rfl) T.n_int (by decide +kernel) (pa_cons (pe_cmpR op_ge (pv 4) (pv 1) (nomark _)) pa_nil))) (pe_slice sl_list (pe_ix ix_list (pv 0) pe_int (fun _ _ => rfl)) (po_some pe_int) po_none)) (pg_sub (pv 0) pe_int set_list))
    (pss_one (ps_ret (pe_op op_mod (pv 4) (pv 1)))))) pss_nil)
    (pss_cons (ps_asg (pe_op op_add (pe_ix ix_list (pv 0) pe_int (fun _ _ => rfl)) pe_int) (pg_sub (pv 0) pe_int set_list))
    (pss_cons (ps_set (i := 2) sc_law_draw.nd rfl (by first | exact Or.inl rfl | exact Or.inr rfl) (pe_ix ix_list (pe_ix ix_list (pv 0) pe_int (fun _ _ => rfl)) (pe_op op_mod (pe_ix ix_list (pv 0) pe_int (fun _ _ => rfl)) (pe_callB call_len_seq (by rfl) T.n_len (by decide +kernel) (pa_cons (pe_ix ix_list (pv 0) pe_int (fun _ _ => rfl)) pa_nil))) (fun _ _ => rfl)))
    (pss_cons (ps_set (i := 3) sc_law_draw.nd rfl (by first | exact Or.inl rfl | exact Or.inr rfl) (pe_op op_add (pe_op op_add (pe_op op_mulW (pe_ix ix_list (pv 0) pe_int (fun _ _ => rfl)) (pe_ix ix_list (pv 0) pe_int (fun _ _ => rfl))) (pe_op op_mul (pe_op op_add (pv 2) pe_int) pe_int)) (pe_op op_mul (pe_ix ix_list (pv 0) pe_int (fun _ _ => rfl)) pe_int)))
    (pss_cons (ps_asg (pe_op op_mod (pv 3) (pe_op op_sub (pe_op op_mul (pe_op op_pow pe_int pe_int) (pe_op op_pow pe_int pe_int)) pe_int)) (pg_sub (pv 0) pe_int set_list))
    (pss_one (ps_ret (pe_op op_mod (pe_op op_fdivW (pe_ix ix_list (pv 0) pe_int (fun _ _ => rfl)) (pe_op op_pow pe_int pe_int)) (pv 1))))))))), ?_⟩
    refine ⟨_, rfl, p, _, 0, _, rfl, rfl, .of hp, at40, Nat.zero_le _, fun e ne => ?_⟩
    have se := same_upd (o := .lst []) ne
    refine ⟨.list (gs.map PyData.int), .list [], .lst (.of (se _ _ hg)) (dp_intl gs), .lst (.of upd_same) .nil, shaped_intl gs, shaped_nil, _, rfl, ?_⟩
    rw [eqv_nilI]
    replace hp := se _ _ hp
    replace hg := se _ _ hg
    replace hc := se _ _ hc
    have z1 := z0.same se
    generalize L2.upd H e (.lst []) = H1 at *
    cases gs with
    | cons x t =>
      refine iteP rfl ?_
      have x0 := g0 x (List.mem_cons_self ..)
      refine ⟨_, rfl, p, _, 0, _, rfl, rfl, .of hp, at40, g, _, 0, _, rfl, rfl, .of hg, atI_ofR (Int.le_refl _) rfl, ?_⟩
      refine ⟨_, rfl, _, rfl, _, _, rfl, rfl, wide_div (by omega) m2 (by decide) (by decide), (by show 1 ≤ sizeLine; decide), fun l1 n1 => ?_⟩
      have u1 := same_upd (o := .lst [.int (x / m)]) n1
      refine ⟨_, rfl, _, rfl, _, _, rfl, rfl, .inr ⟨_, rfl, l1, _, _, rfl, rfl, upd_same, ?_⟩⟩
      have hk : ∃ k : Nat, k ≤ 1 ∧ (if decide (m ≤ x) = true then (1 : Int) else 0) = (k : Int) := by
        by_cases y : m ≤ x
        · exact ⟨1, Nat.le_refl _, by rw [decide_eq_true y]; rfl⟩
        · exact ⟨0, Nat.zero_le _, by rw [decide_eq_false y]; rfl⟩
      obtain ⟨k, k1, ek⟩ := hk
      rw [show (if decide (x ≥ m) = true then (1 : Int) else 0) = (k : Int) from ek]
      refine ⟨by omega, by omega, ?_, fun l2 n2 => ?_⟩
      · rw [Int.toNat_natCast]
        show 1 * k ≤ sizeLine
        exact Nat.le_of_lt (small (by omega))
      rw [Int.toNat_natCast, show (List.replicate k [V.int (x / m)]).flatten = (List.replicate k (x / m)).map V.int by rw [List.map_replicate, List.flatten_replicate_singleton]]
      have u2 := same_upd (o := .lst ((List.replicate k (x / m)).map V.int)) n2
      refine ⟨_, rfl, p, _, 0, _, rfl, rfl, .of (u2 _ _ (u1 _ _ hp)), at40, _, rfl, g, _, rfl, SqL.of (u2 _ _ (u1 _ _ hg)), fun l3 n3 => ?_⟩
      rw [cut_dropR _ 1 (by omega) (by rw [List.length_map, List.length_cons]; omega), show ((x :: t).map V.int).drop (1 : Int).toNat = t.map V.int from rfl]
      have u3 := same_upd (o := .lst (t.map V.int)) n3
      refine ⟨l2, l3, _, _, rfl, rfl, u3 _ _ upd_same, upd_same, ?_, fun l4 n4 => ?_⟩
      · rw [List.length_map, List.length_map, List.length_replicate]
        rw [List.length_cons] at lg
        exact Nat.le_of_lt (small (by omega))
      have u4 := same_upd (o := .lst ((List.replicate k (x / m)).map V.int ++ t.map V.int)) n4
      have sA := u1.trans (u2.trans (u3.trans u4))
      refine ⟨_, rfl, p, _, 0, 0, rfl, rfl, sA _ _ hp, rfl, ?_⟩
      refine ⟨_, rfl, _, rfl, _, _, rfl, rfl, (by omega), ?_⟩
      have n4p : l4 ≠ p := (ne_of_none ((u1.trans (u2.trans u3)) _ _ hp) n4).symm
      refine q _ _ ⟨fun b o nb eb => ?_, fun D o eD oD => ?_⟩ ⟨l4, c, List.replicate k (x / m) ++ t, cs, n, s, upd_same, ?_, ?_, ?_, ?_, lc, lc2, n0, s0, s1⟩ (Int.emod_nonneg _ (by omega)) (Int.emod_lt_of_pos _ (by omega))
      · rw [upd_ne nb]
        exact sA _ _ (se _ _ eb)
      · obtain ⟨g', c', i', t', hp', e1, e2, e3⟩ := oD.same se
        rw [hp] at hp'
        cases hp'
        refine ⟨l4, c, n, s, upd_same, e1, ?_, e3⟩
        exact ne_of_none ((u1.trans (u2.trans u3)) _ _ (se _ _ eD)) n4
      · rw [upd_ne n4p, upd_same, List.map_append]
      · rw [upd_ne (ne_of hc hp (fun q => not_ints q.symm))]
        exact sA _ _ hc
      · rw [List.length_append, List.length_replicate]
        rw [List.length_cons] at lg
        omega
      · intro y hy
        rcases List.mem_append.mp hy with h | h
        · rw [List.eq_of_mem_replicate h]
          exact Int.ediv_nonneg x0 (by omega)
        · exact g0 y (List.mem_cons_of_mem _ h)
    | nil =>
      refine iteN rfl ?_
      refine ⟨_, rfl, p, _, 2, _, rfl, rfl, .of hp, at42, _, _, rfl, rfl, ?_⟩
      refine ⟨_, rfl, p, _, 2, 2, rfl, rfl, hp, rfl, ?_⟩
      have np : c ≠ p := ne_of hc hp (fun q => not_ints q.symm)
      have h2 : (L2.upd H1 p (.lst [.ref g, .ref c, .int (n + 1), .int s])) p = some (.lst [.ref g, .ref c, .int (n + 1), .int s]) := upd_same
      have hc2 : (L2.upd H1 p (.lst [.ref g, .ref c, .int (n + 1), .int s])) c = some (.lst (cs.map V.int)) := by rw [upd_ne np]; exact hc
      have ix0 := Int.emod_nonneg (n + 1) (b := (cs.length : Int)) (by omega)
      have ix1 := Int.emod_lt_of_pos (n + 1) (b := (cs.length : Int)) (by omega)
      obtain ⟨x, hx⟩ : ∃ x, cs[((n + 1) % (cs.length : Int)).toNat]? = some x := ⟨_, List.getElem?_eq_getElem (by omega)⟩
      have hx2 : (cs.map V.int)[((n + 1) % (cs.length : Int)).toNat]? = some (.int x) := by rw [List.getElem?_map, hx]; rfl
      refine ⟨_, rfl, p, _, 1, _, rfl, rfl, .of h2, at41, _, rfl, p, _, 2, _, rfl, rfl, .of h2, at42, _, rfl, p, _, 1, _, rfl, rfl, .of h2, at41, c, _, rfl, .inl (.of hc2), ?_⟩
      rw [List.length_map]
      refine ⟨_, _, rfl, rfl, (by omega), c, _, _, _, rfl, rfl, .of hc2, atI_ofR ix0 hx2, ?_⟩
      refine ⟨_, rfl, p, _, 3, _, rfl, rfl, .of h2, at43, _, rfl, p, _, 3, _, rfl, rfl, .of h2, at43, _, _, rfl, rfl, wide_mul (a := 127) (b := 127) (by omega) (by omega) (by decide) (by decide) (by decide), _, rfl, _, _, rfl, rfl, _, _, rfl, rfl, .inr ⟨by decide, by decide⟩, _, _, rfl, rfl, _, rfl, p, _, 2, _, rfl, rfl, .of h2, at42, _, _, rfl, rfl, .inr ⟨by decide, by decide⟩, _, _, rfl, rfl, ?_⟩
      refine ⟨_, rfl, _, _, rfl, rfl, ⟨by decide, by decide, by decide⟩, _, _, rfl, rfl, ⟨by decide, by decide, by decide⟩, _, _, rfl, rfl, .inr ⟨by decide +kernel, by decide +kernel⟩, _, _, rfl, rfl, _, _, rfl, rfl, ?_, ?_⟩
      · rw [p127]
        show (0 : Int) < 170141183460469231731687303715884105727
        decide
      rw [p127]
      refine ⟨_, rfl, p, _, 3, 3, rfl, rfl, h2, rfl, ?_⟩
      have h3 : ∀ y : Int, (L2.upd (L2.upd H1 p (.lst [.ref g, .ref c, .int (n + 1), .int s])) p (.lst [.ref g, .ref c, .int (n + 1), .int y])) p = some (.lst [.ref g, .ref c, .int (n + 1), .int y]) := fun y => upd_same
      refine ⟨_, rfl, p, _, 3, _, rfl, rfl, .of (h3 _), at43, _, _, rfl, rfl, ⟨by decide, by decide, by decide⟩, _, _, rfl, rfl, wide_div (b := 64) (by decide) (by decide) (by decide) (by decide), _, rfl, _, _, rfl, rfl, (by omega), ?_⟩
      have ng : g ≠ p := ne_of hg hp (fun q => not_ints (l := []) q.symm)
      refine q _ _ ⟨fun b o nb eb => ?_, fun D o eD oD => ?_⟩ ⟨g, c, [], cs, n + 1, _, h3 _, ?_, ?_, Nat.zero_le _, (fun y h => by cases h), lc, lc2, by omega, Int.emod_nonneg _ (by decide), Int.emod_lt_of_pos _ (by decide)⟩ (Int.emod_nonneg _ (by omega)) (Int.emod_lt_of_pos _ (by omega))
      · rw [upd_ne nb, upd_ne nb]
        exact se _ _ eb
      · obtain ⟨g', c', i', t', hp', e1, e2, e3⟩ := oD.same se
        rw [hp] at hp'
        cases hp'
        exact ⟨g, c, _, _, h3 _, e1, e2, e3⟩
      · rw [upd_ne ng, upd_ne ng]
        exact hg
      · rw [upd_ne np, upd_ne np]
        exact hc
end
end UP

set_option Elab.async false
set_option linter.all false
set_option maxRecDepth 100000
set_option maxHeartbeats 4000000
namespace UP
open PySem PySem.Spec PyProof.Rows L2
theorem SqL.sameR {K : PySem.W.Frag} {H H' : Hp} {a : Addr} {xs : List V} (h : SqL K H a xs) (s : Same H H') : SqL K H' a xs := h.elim (fun z => .inl (z.elim (fun y => .inl (s _ _ y)) (fun ⟨o, y⟩ => .inr ⟨o, s _ _ y⟩))) (fun z => .inr z)
theorem erase_permR {α : Type} : ∀ (l : List α) (i : Nat) (h : i < l.length), (l[i] :: l.eraseIdx i).Perm l
  | [], i, h => absurd h (Nat.not_lt_zero _)
  | x :: t, 0, _ => List.Perm.refl _
  | x :: t, i + 1, h => by
    have h' : i < t.length := Nat.lt_of_succ_lt_succ h
    show (t[i] :: x :: t.eraseIdx i).Perm (x :: t)
    exact (List.Perm.swap x _ _).trans ((erase_permR t i h').cons x)
theorem cut63 (ns : List Int) : ∃ ms : List Int, cutV (ns.map V.int) none (some 63) = ms.map V.int ∧ ms.length ≤ 63 := by
  refine ⟨_, by unfold cutV; rw [← List.map_drop, ← List.map_take], ?_⟩
  rw [List.length_take, List.length_drop]
  have : HT.sIx (ns.map V.int).length (ns.map V.int).length (some 63) ≤ 63 := by
    have := HT.sIx_nat (ns.map V.int).length (ns.map V.int).length 63
    have e : HT.sIx (ns.map V.int).length (ns.map V.int).length (some 63) = HT.sIx (ns.map V.int).length (ns.map V.int).length (some ((63 : Nat) : Int)) := rfl
    rw [e, this]
    exact Nat.min_le_left ..
  omega
theorem int_at {ms : List Int} {i : Nat} {x : V} (h : (ms.map V.int)[i]? = some x) : ∃ n, x = .int n := by
  rw [List.getElem?_map] at h
  cases e : ms[i]? with
  | none =>
    rw [e] at h
    cases h
  | some n =>
    rw [e] at h
    exact ⟨n, (Option.some.inj h).symm⟩
section
variable {P : Program} {w : World} {K : PySem.W.Frag} {mg : Str → Option Value} {base : Heap}
/-! _law_reel: slots 0:script 1:stir 2:cell 3:great -/
abbrev s_law_reel : Stmt := topS 30
theorem sc_law_reel : FnScope ["script", "stir", "cell", "great"] ["script"] (defScope s_law_reel) := ⟨rfl, rfl, rfl, by decide +kernel, rfl, by decide +kernel, by decide +kernel⟩
def sp_law_reel (K : PySem.W.Frag) : Sp := fun vs H Q _ => ∃ (a : Addr) (ns : List Int), vs = [.ref a] ∧ SqL K H a (ns.map V.int) ∧ ∀ H' p, Same H H' → H p = none → Reel H' p → Q (.ref p) H'
theorem ok_law_reel (D : Df K mg "_law_reel" s_law_reel) (T : Tx mg) : Has P w K mg base 1 "_law_reel" ["script"] (sp_law_reel K) := by
  refine has_of D sc_law_reel (fun _ _ _ _ _ _ us hl => match us, hl with | [_], _ => rfl) (fun vs H Q E h => ?_) (fun f cdv A outer s₀ H vs Q E hr h => ?_)
  · obtain ⟨a, rs, rfl, _⟩ := h
    rfl
  · obtain ⟨a, ns, rfl, hS, q⟩ := h
    obtain ⟨ms, em, lm⟩ := cut63 ns
    refine ⟨_, (pss_cons (ps_set (i := 1) sc_law_reel.nd rfl (by first | exact Or.inl rfl | exact Or.inr rfl) (pe_op op_pow pe_int pe_int))
    (pss_cons (ps_for PassesOwn.never rfl (pi_list (pe_slice sl_list (pv 0) po_none (po_some pe_int))) (pg_name (i := 2) sc_law_reel.nd rfl (by first | exact Or.inl rfl | exact Or.inr rfl))
      (pss_one (ps_set (i := 1) sc_law_reel.nd rfl (by first | exact Or.inl rfl | exact Or.inr rfl) (pe_op op_mod (pe_op op_add (pe_op op_add (pe_op op_mulW (pv 1) (pv 1)) (pe_op op_mod (pv 2) pe_int)) pe_int) (pe_op op_sub (pe_op op_mul (pe_op op_pow pe_int pe_int) (pe_op op_pow pe_int pe_int)) pe_int)))))
    (pss_cons (ps_setLc (i := 3) (own := [("cell", 2)]) rfl sc_law_reel.nd rfl rfl (sw_true rfl rfl rfl (by decide +kernel)) (pi_list (pe_slice sl_list (pv 0) po_none (po_some pe_int))) (blkOk_by (N := ["script", "stir", "cell", "great"]) (sc := defScope s_law_reel) (by decide +kernel)) (fun _ _ _ _ _ => (pg_name (i := 2) sc_law_reel.nd rfl (by first | exact Or.inl rfl | exact Or.inr rfl))) (fun _ _ _ _ _ => pts_one (pt_cmpR op_ge (pv 2) (pe_op op_pow pe_int pe_int) (nomark _))) (fun _ _ _ _ _ => (pe_op op_sub (pv 2) (pe_op op_pow pe_int pe_int))))
    (pss_one (ps_ret (pe_lst (pa_cons (pv 3) (pa_cons (pe_op op_cat (pe_lc (own := [("cell", 2)]) rfl sc_law_reel.nd (pi_list (pe_slice sl_list (pv 0) po_none (po_some pe_int))) (blkOk_by (N := ["script", "stir", "cell", "great"]) (sc := defScope s_law_reel) (by decide +kernel)) (fun _ _ _ _ _ => (pg_name (i := 2) sc_law_reel.nd rfl (by first | exact Or.inl rfl | exact Or.inr rfl))) (fun _ _ _ _ _ => pts_nil) (fun _ _ _ _ _ => (pe_op op_mod (pv 2) pe_int))) (pe_lst (pa_cons pe_int pa_nil))) (pa_cons pe_int (pa_cons (pv 1) pa_nil)))))))))), ?_⟩
    refine ⟨_, _, rfl, rfl, ⟨by decide, by decide, by decide⟩, ?_⟩
    refine ⟨_, rfl, _, rfl, a, _, rfl, hS, fun c nc => ?_⟩
    rw [em]
    have sc : Same H (upd H c (.lst (ms.map V.int))) := same_upd nc
    refine ⟨c, rfl, ⟨_, .of upd_same⟩, for_list (K := K) (a := c) (xs := ms.map V.int) (fun i σ H' => ∃ s y2, σ = [some (.ref a), some (.int s), y2, none] ∧ H' = upd H c (.lst (ms.map V.int)) ∧ 0 ≤ s ∧ s < 170141183460469231731687303715884105727)
      ⟨_, none, rfl, rfl, by decide +kernel, by decide +kernel⟩ (fun i σ H' _ hP => ?_) (fun i x σ H4 ex hP => ?_) (fun σ H4 hP => ?_)⟩
    · obtain ⟨_, _, _, rfl, _⟩ := hP
      exact .of upd_same
    · obtain ⟨s, y2, rfl, rfl, s0, s1⟩ := hP
      obtain ⟨n, rfl⟩ := int_at ex
      refine ⟨_, rfl, _, rfl, _, _, rfl, rfl, wide_mul (a := 127) (b := 127) (by omega) (by omega) (by decide) (by decide) (by decide), _, rfl, _, _, rfl, rfl, (by show (0 : Int) < 1000000000000000003; decide), _, _, rfl, rfl, _, _, rfl, rfl, _, _, rfl, rfl, ⟨by decide, by decide, by decide⟩, _, _, rfl, rfl, ⟨by decide, by decide, by decide⟩, _, _, rfl, rfl, .inr ⟨by decide +kernel, by decide +kernel⟩, _, _, rfl, rfl, _, _, rfl, rfl, ?_, ?_⟩
      · rw [p127]
        show (0 : Int) < 170141183460469231731687303715884105727
        decide
      rw [p127]
      exact ⟨_, _, rfl, rfl, Int.emod_nonneg _ (by decide), Int.emod_lt_of_pos _ (by decide)⟩
    · obtain ⟨s, y2, rfl, rfl, s0, s1⟩ := hP
      generalize upd H c (.lst (ms.map V.int)) = H1 at *
      refine ⟨_, rfl, _, rfl, a, _, rfl, SqL.sameR hS sc, fun c2 nc2 => ?_⟩
      rw [em]
      have sc2 : Same H1 (upd H1 c2 (.lst (ms.map V.int))) := same_upd nc2
      refine ⟨c2, rfl, ⟨_, .of upd_same⟩, fun L nL => lc_list (K := K) (a := c2) (xs := ms.map V.int) (fun i H' => Same (upd H1 c2 (.lst (ms.map V.int))) H' ∧ ∃ gs : List Int, H' L = some (.lst (gs.map V.int)) ∧ gs.length ≤ i ∧ ∀ x ∈ gs, 0 ≤ x)
        ⟨same_upd nL, [], upd_same, Nat.le_refl _, fun x h => by cases h⟩ (fun i H' _ p => .of (p.1 _ _ upd_same)) (fun i x H5 ex hP => ?_) (fun H5 hP => ?_)⟩
      · obtain ⟨s5, gs, hL, lg, g0⟩ := hP
        have hi : i < ms.length := by
          have := (List.getElem?_eq_some_iff.mp ex).1
          rw [List.length_map] at this
          exact this
        obtain ⟨n, rfl⟩ := int_at ex
        refine ⟨rfl, _, rfl, _, _, rfl, rfl, ⟨by decide, by decide, by decide⟩, _, _, rfl, rfl, _, rfl, ite2 (fun e => ?_) (fun e => ?_)⟩
        · have e : (10 : Int) ^ ((18 : Int).toNat) ≤ n := of_decide_eq_true e
          refine ⟨_, rfl, _, _, rfl, rfl, ⟨by decide, by decide, by decide⟩, _, _, rfl, rfl, _, hL, ?_, same_grow nL s5, gs ++ [n - (10 : Int) ^ ((18 : Int).toNat)], ?_, ?_, ?_⟩
          · rw [List.length_map]
            exact small (by omega)
          · rw [upd_same, List.map_append]
            rfl
          · rw [List.length_append]
            show gs.length + 1 ≤ i + 1
            omega
          · intro x hx
            rcases List.mem_append.mp hx with h | h
            · exact g0 x h
            · rw [List.mem_singleton.mp h]
              omega
        · exact ⟨s5, gs, hL, by omega, g0⟩
      · obtain ⟨s5, gs, hL, lg, g0⟩ := hP
        rw [List.length_map] at lg
        refine ⟨_, rfl, ?_⟩
        have sB : Same H1 H5 := sc2.trans s5
        refine ⟨_, rfl, _, rfl, a, _, rfl, SqL.sameR (SqL.sameR hS sc) sB, fun c3 nc3 => ?_⟩
        rw [em]
        have sc3 : Same H5 (upd H5 c3 (.lst (ms.map V.int))) := same_upd nc3
        refine ⟨c3, rfl, ⟨_, .of upd_same⟩, fun M nM => lc_list (K := K) (a := c3) (xs := ms.map V.int) (fun i H' => Same (upd H5 c3 (.lst (ms.map V.int))) H' ∧ ∃ cs : List Int, H' M = some (.lst (cs.map V.int)) ∧ cs.length = i)
          ⟨same_upd nM, [], upd_same, rfl⟩ (fun i H' _ p => .of (p.1 _ _ upd_same)) (fun i x H6 ex hP => ?_) (fun H6 hP => ?_)⟩
        · obtain ⟨s6, cs, hM, lc⟩ := hP
          have hi : i < ms.length := by
            have := (List.getElem?_eq_some_iff.mp ex).1
            rw [List.length_map] at this
            exact this
          obtain ⟨n, rfl⟩ := int_at ex
          refine ⟨rfl, yesT ⟨_, rfl, _, _, rfl, rfl, (by show (0 : Int) < 1000003; decide), _, hM, ?_, same_grow nM s6, cs ++ [n % 1000003], ?_, ?_⟩⟩
          · rw [List.length_map]
            exact small (by omega)
          · rw [upd_same, List.map_append]
            rfl
          · rw [List.length_append, lc]
            rfl
        · obtain ⟨s6, cs, hM, lc⟩ := hP
          rw [List.length_map] at lc
          refine ⟨(by show 1 ≤ sizeLine; decide), fun o no => ?_⟩
          have s7 := same_upd (o := .lst [.int 57]) no
          refine ⟨M, o, _, _, rfl, rfl, s7 _ _ hM, upd_same, ?_, fun r nr => ?_⟩
          · rw [List.length_map]
            show cs.length + 1 ≤ sizeLine
            exact Nat.le_of_lt (small (by omega))
          have s8 := same_upd (o := .lst (cs.map V.int ++ [.int 57])) nr
          refine ⟨_, rfl, (by show 4 ≤ sizeLine; decide), fun p np => ?_⟩
          have s9 := same_upd (o := .lst [.ref L, .ref r, .int 0, .int s]) np
          have sC := sc3.trans (s6.trans (s7.trans s8))
          have sT : Same H _ := sc.trans (sB.trans sC)
          refine q _ p (sT.trans s9) (sT.free np) ⟨L, r, gs, cs ++ [57], 0, s, upd_same, s9 _ _ (sC _ _ hL), ?_, by omega, g0, ?_, ?_, Int.le_refl _, s0, s1⟩
          · rw [s9 _ _ upd_same, List.map_append]
            rfl
          · rw [List.length_append]
            exact Nat.succ_pos _
          · rw [List.length_append]
            show cs.length + 1 ≤ 64
            omega
/-! _law_names: slots 0:reel 1:many 2:pool 3:turn -/
abbrev s_law_names : Stmt := topS 32
theorem sc_law_names : FnScope ["reel", "many", "pool", "turn"] ["reel", "many"] (defScope s_law_names) := ⟨rfl, rfl, rfl, by decide +kernel, rfl, by decide +kernel, by decide +kernel⟩
def thirteen : List Str := ["a", "b", "c", "ab", "zz", "z", "abcdefgh", "m", "ba", "q", "aa", "k", "waits"]
theorem thirteen_nd : thirteen.Nodup := by decide +kernel
theorem thirteen_no : ("other" : Str) ∉ thirteen := by decide +kernel
theorem thirteen_ok : ∀ s ∈ thirteen, KindOk s := by decide +kernel
def sp_law_names : Sp := fun vs H Q _ => ∃ (p : Addr) (m : Int), vs = [.ref p, .int m] ∧ Reel H p ∧ 0 ≤ m ∧ m ≤ 13 ∧ ∀ (H' : Hp) (l : Addr) (ks : List Str), RB p H H' → Reel H' p → H l = none → H' l = some (.lst (ks.map V.str)) → Off H' p l → ((ks.length : Nat) : Int) = m → (∀ s ∈ ks, KindOk s) → ks.Nodup ∧ sortedS ks = true ∧ ("other" : Str) ∉ ks → Q (.ref l) H'
theorem ok_law_names (D : Df K mg "_law_names" s_law_names) (T : Tx mg) (G_law_draw : Has P w K mg base 1 "_law_draw" ["reel", "many"] sp_law_draw) : Has P w K mg base 2 "_law_names" ["reel", "many"] sp_law_names := by
  refine has_of D sc_law_names (fun _ _ _ _ _ _ us hl => match us, hl with | [_, _], _ => rfl) (fun vs H Q E h => ?_) (fun f cdv A outer s₀ H vs Q E hr h => ?_)
  · obtain ⟨_, _, rfl, _⟩ := h
    rfl
  · obtain ⟨p, m, rfl, z, m1, m2, q⟩ := h
    refine ⟨_, (pss_cons (ps_set (i := 2) sc_law_names.nd rfl (by first | exact Or.inl rfl | exact Or.inr rfl) (pe_lst (pa_cons pe_str (pa_cons pe_str (pa_cons pe_str (pa_cons pe_str (pa_cons pe_str (pa_cons pe_str (pa_cons pe_str (pa_cons pe_str (pa_cons pe_str (pa_cons pe_str (pa_cons pe_str (pa_cons pe_str (pa_cons pe_str pa_nil)))))))))))))))
    (pss_one (ps_ret (pe_callB cr_sortedS (by rfl) T.n_sorted (by decide +kernel) (pa_cons (pe_lc (own := [("turn", 3)]) rfl sc_law_names.nd (pi_range1 (by rfl) T.n_range (pa_cons (pv 1) pa_nil)) (blkOk_by (N := ["reel", "many", "pool", "turn"]) (sc := defScope s_law_names) (by decide +kernel)) (fun _ _ _ _ _ => (pg_name (i := 3) sc_law_names.nd rfl (by first | exact Or.inl rfl | exact Or.inr rfl))) (fun _ _ _ _ _ => pts_nil) (fun _ _ _ _ _ => (pe_bmK (K := K) rfl (pe_bm PySem.F.plainAttrs_list PySem.F.slot_list_pop PySem.F.type_list_pop mt_popAt (pv 2) (pa_cons (pe_callH G_law_draw (hr.mono (by omega)) (by rfl) (pa_cons (pv 0) (pa_cons (pe_callB (call_len_seqK (K := K) rfl) (by rfl) T.n_len (by decide +kernel) (pa_cons (pv 2) pa_nil)) pa_nil))) pa_nil))))) pa_nil))))), ?_⟩
    refine ⟨(by show 13 ≤ sizeLine; decide), fun pl npl => ?_⟩
    have n1 := z.ne npl
    have opl : Off (upd H pl (.lst (thirteen.map V.str))) p pl := (z.off npl).upd n1
    have z1 : Reel (upd H pl (.lst (thirteen.map V.str))) p := z.same (same_upd npl)
    refine ⟨_, rfl, m, rfl, by omega, by omega, fun L nL => ?_⟩
    have nLp : L ≠ pl := fun e => by rw [e, upd_same] at nL; cases nL
    have nLH : H L = none := (same_upd npl).free nL
    have nLs := z1.ne nL
    refine lc_range (lo := 0) (n := m.toNat) (fun i H' => ∃ ps ks : List Str, RB p H H' ∧ Reel H' p ∧ Off H' p pl ∧ Off H' p L ∧ H' pl = some (.lst (ps.map V.str)) ∧ ps.length + i = 13 ∧ (∀ s ∈ ps, KindOk s) ∧ H' L = some (.lst (ks.map V.str)) ∧ ks.length = i ∧ (∀ s ∈ ks, KindOk s) ∧ (ps ++ ks).Perm thirteen)
      ⟨thirteen, [], (RB.of (same_upd npl)).trans (RB.of (same_upd nL)), z1.same (same_upd nL), opl.same (same_upd nL), (z1.off nL).upd nLs, by rw [upd_ne nLp.symm, upd_same]; rfl, rfl, thirteen_ok, upd_same, rfl, (fun s h => by cases h), by rw [List.append_nil]⟩ (fun i H3 hi hP => ?_) (fun H3 hP => ?_)
    · obtain ⟨ps, ks, b3, z3, o3, o3L, hpl, lp, okp, hL, lk, okk, pm0⟩ := hP
      refine ⟨rfl, yesT ⟨_, rfl, .inl ⟨rfl, _, SqL.of hpl⟩, _, rfl, _, rfl, pl, _, rfl, .inl (.of hpl), p, _, rfl, z3, ?_, ?_, fun H4 r4 b4 z4 r40 r41 => ?_⟩⟩
      · rw [List.length_map]
        omega
      · rw [List.length_map]
        exact wide8 (by omega) (by omega)
      · rw [List.length_map] at r41
        have lt : r4.toNat < ps.length := by omega
        have h4 : H4 pl = some (.lst (ps.map V.str)) := b4.but _ _ n1 hpl
        have hL4 : H4 L = some (.lst (ks.map V.str)) := b4.but _ _ nLs hL
        have o4 := b4.off _ _ hpl o3
        have o4L := b4.off _ _ hL o3L
        have ek : (ps.map V.str)[r4.toNat]? = some (.str ps[r4.toNat]) := by
          rw [List.getElem?_map, List.getElem?_eq_getElem lt]
          rfl
        have ix : seqIndex? r4 (ps.map V.str).length = some r4.toNat := by
          unfold seqIndex?
          rw [List.length_map]
          have e1 : ¬ r4 < 0 := by omega
          simp only [e1, if_false]
          rw [if_pos]
          simp
          omega
        refine ⟨pl, _, r4, r4.toNat, _, rfl, rfl, h4, by omega, by omega, ix, ek, ks.map V.str, ?_, ?_, ps.eraseIdx r4.toNat, ks ++ [ps[r4.toNat]], ?_, ?_, ?_, ?_, ?_, ?_, ?_, ?_, ?_, ?_, ?_⟩
        · rw [upd_ne nLp]
          exact hL4
        · rw [List.length_map]
          exact small (by omega)
        · exact ((b3.trans b4).grow npl o4).grow nLH (o4L.upd n1)
        · exact (z4.upd o4).upd (o4L.upd n1)
        · exact (o4.upd n1).upd nLs
        · exact (o4L.upd n1).upd nLs
        · rw [upd_ne nLp.symm, upd_same, erase_map]
        · rw [List.length_eraseIdx_of_lt lt]
          omega
        · intro s hs
          exact okp s (List.mem_of_mem_eraseIdx hs)
        · rw [upd_same, List.map_append]
          rfl
        · rw [List.length_append, lk]
          rfl
        · intro s hs
          rcases List.mem_append.mp hs with h | h
          · exact okk s h
          · rw [List.mem_singleton.mp h]
            exact okp _ (List.getElem_mem lt)
        · refine List.Perm.trans ?_ pm0
          have h1 := erase_permR ps r4.toNat lt
          refine List.Perm.trans ?_ (h1.append_right ks)
          rw [← List.append_assoc]
          exact List.perm_append_singleton ..
    · obtain ⟨ps, ks, b3, z3, o3, o3L, hpl, lp, okp, hL, lk, okk, pm0⟩ := hP
      refine ⟨L, ks, rfl, .of hL, by omega, fun ks' l pm so nl => ?_⟩
      have nlp := z3.ne nl
      exact q _ l ks' (b3.trans (RB.of (same_upd nl))) (z3.same (same_upd nl)) (b3.free z3 nl) upd_same ((z3.off nl).upd nlp) (by rw [pm.length_eq]; omega) (fun s hs => okk s (pm.mem_iff.mp hs)) ⟨pm.nodup_iff.mpr (List.nodup_append.mp (pm0.nodup_iff.mpr thirteen_nd)).2.1, so, fun z => thirteen_no (pm0.mem_iff.mp (List.mem_append.mpr (.inr (pm.mem_iff.mp z))))⟩
/-! _law_state: slots 0:reel 1:names 2:most 3:count -/
abbrev s_law_state : Stmt := topS 34
theorem sc_law_state : FnScope ["reel", "names", "most", "count"] ["reel", "names", "most"] (defScope s_law_state) := ⟨rfl, rfl, rfl, by decide +kernel, rfl, by decide +kernel, by decide +kernel⟩
def sp_law_state : Sp := fun vs H Q _ => ∃ (p l : Addr) (ks : List Str) (m : Int), vs = [.ref p, .ref l, .int m] ∧ Reel H p ∧ H l = some (.lst (ks.map V.str)) ∧ 0 < ks.length ∧ ks.length ≤ 1000 ∧ (∀ s ∈ ks, KindOk s) ∧ 0 ≤ m ∧ m.natAbs < 2 ^ 7999 ∧ ∀ H' v st, RB p H H' → Reel H' p → StV H' v st → StOk st → (∀ r, st = some r → r.2 ≤ m) → Q v H'
theorem ok_law_state (D : Df K mg "_law_state" s_law_state) (T : Tx mg) (G_law_draw : Has P w K mg base 1 "_law_draw" ["reel", "many"] sp_law_draw) : Has P w K mg base 2 "_law_state" ["reel", "names", "most"] sp_law_state := by
  refine has_of D sc_law_state (fun _ _ _ _ _ _ us hl => match us, hl with | [_, _, _], _ => rfl) (fun vs H Q E h => ?_) (fun f cdv A outer s₀ H vs Q E hr h => ?_)
  · obtain ⟨_, _, _, _, rfl, _⟩ := h
    rfl
  · obtain ⟨p, l, ks, m, rfl, z, hl, k1, k2, okk, m0, m2, q⟩ := h
    have mw : (m + 1).natAbs < 2 ^ 8000 := by
      rw [show (8000 : Nat) = 7999 + 1 from rfl, Nat.pow_succ]
      omega
    refine ⟨_, (pss_cons (ps_set (i := 3) sc_law_state.nd rfl (by first | exact Or.inl rfl | exact Or.inr rfl) (pe_callH G_law_draw (hr.mono (by omega)) (by rfl) (pa_cons (pv 0) (pa_cons (pe_op op_add (pv 2) pe_int) pa_nil))))
    (pss_one (ps_ret (pe_ifExp (pt_cmpR op_gt (pv 3) pe_int (nomark _)) (pe_tup (pa_cons (pe_ix ix_list (pv 1) (pe_callH G_law_draw (hr.mono (by omega)) (by rfl) (pa_cons (pv 0) (pa_cons (pe_callB call_len_seq (by rfl) T.n_len (by decide +kernel) (pa_cons (pv 1) pa_nil)) pa_nil))) (fun _ _ => rfl)) (pa_cons (pv 3) pa_nil))) pe_non)))), ?_⟩
    refine ⟨_, rfl, _, rfl, _, _, rfl, rfl, p, _, rfl, z, (by show 1 ≤ m + 1; omega), mw, fun H1 r b1 z1 r0 r1 => ?_⟩
    have r1 : r < m + 1 := r1
    have hl1 := b1.strs z hl
    refine ⟨_, rfl, _, _, rfl, rfl, _, rfl, ite2 (fun e => ?_) (fun e => ?_)⟩
    · have e : 0 < r := of_decide_eq_true e
      refine ⟨_, rfl, _, rfl, _, rfl, l, _, rfl, .inl (.of hl1), p, _, rfl, z1, ?_, ?_, fun H2 r2 b2 z2 r20 r21 => ?_⟩
      · rw [List.length_map]
        omega
      · rw [List.length_map]
        exact wide8 (by omega) (by omega)
      rw [List.length_map] at r21
      have lt : r2.toNat < ks.length := by omega
      have ek : (ks.map V.str)[r2.toNat]? = some (.str ks[r2.toNat]) := by
        rw [List.getElem?_map, List.getElem?_eq_getElem lt]
        rfl
      have kk : KindOk ks[r2.toNat] := okk _ (List.getElem_mem lt)
      generalize ks[r2.toNat] = kd at ek kk
      refine ⟨l, _, r2, _, rfl, rfl, .of (b2.strs z1 hl1), atI_ofR r20 ek, _, rfl, (by show 2 ≤ sizeLine; decide), fun t nt => ?_⟩
      refine q _ _ (some (kd, r)) ((b1.trans b2).trans (RB.of (same_upd nt))) (z2.same (same_upd nt)) ⟨t, rfl, upd_same⟩ (fun x h => ?_) (fun x h => ?_)
      · cases h
        exact ⟨kk, by show 1 ≤ r; omega⟩
      · cases h
        show r ≤ m
        omega
    · exact q _ _ none b1 z1 rfl (fun x h => by cases h) (fun x h => by cases h)
/-! _law_step: slots 0:state 1:kind 2:count 3:left -/
abbrev s_law_step : Stmt := topS 35
theorem sc_law_step : FnScope ["state", "kind", "count", "left"] ["state", "kind", "count"] (defScope s_law_step) := ⟨rfl, rfl, rfl, by decide +kernel, rfl, by decide +kernel, by decide +kernel⟩
def sp_law_step : Sp := fun vs H Q _ => ∃ (v : V) (st : Option Run) (k : Str) (c : Int), vs = [v, .str k, .int c] ∧ StV H v st ∧ 1 ≤ c ∧ ∀ H' v', Same H H' → StV H' v' (stepR st k c) → Q v' H'
theorem ok_law_step (D : Df K mg "_law_step" s_law_step) : Has P w K mg base 1 "_law_step" ["state", "kind", "count"] sp_law_step := by
  refine has_of D sc_law_step (fun _ _ _ _ _ _ us hl => match us, hl with | [_, _, _], _ => rfl) (fun vs H Q E h => ?_) (fun f cdv A outer s₀ H vs Q E hr h => ?_)
  · obtain ⟨_, _, _, _, rfl, _⟩ := h
    rfl
  · obtain ⟨v, st, k, c, rfl, hv, c1, q⟩ := h
    refine ⟨_, (pss_cons (ps_if (PW.pt (pw_or (pt_cmpR op_isN (pv 0) pe_non (nomark _)) (pw_or1 (pt_cmpR op_eq (pe_ix ix_tup (pv 0) pe_int (fun _ _ => rfl)) (pv 1) (nomark _))))) (pss_one (ps_ret (pe_tup (pa_cons (pv 1) (pa_cons (pe_op op_add (pv 2) (pe_ifExp (pt_cmpR op_isN (pv 0) pe_non (nomark _)) pe_int (pe_ix ix_tup (pv 0) pe_int (fun _ _ => rfl)))) pa_nil))))) pss_nil)
    (pss_cons (ps_set (i := 3) sc_law_step.nd rfl (by first | exact Or.inl rfl | exact Or.inr rfl) (pe_op op_sub (pe_ix ix_tup (pv 0) pe_int (fun _ _ => rfl)) (pv 2)))
    (pss_cons (ps_if (pt_cmpR op_eq (pv 3) pe_int (nomark _)) (pss_one (ps_ret pe_non)) pss_nil)
    (pss_one (ps_ret (pe_ifExp (pt_cmpR op_gt (pv 3) pe_int (nomark _)) (pe_tup (pa_cons (pe_ix ix_tup (pv 0) pe_int (fun _ _ => rfl)) (pa_cons (pv 3) pa_nil))) (pe_tup (pa_cons (pv 1) (pa_cons (pe_op op_sub pe_int (pv 3)) pa_nil))))))))), ?_⟩
    cases st with
    | none =>
      obtain rfl := hv
      refine ⟨_, rfl, rfl, _, rfl, iteP rfl (iteT ?_)⟩
      refine ⟨_, rfl, _, rfl, _, rfl, rfl, _, rfl, iteP rfl ⟨_, _, rfl, rfl, (by show 2 ≤ sizeLine; decide), fun t nt => q _ _ (same_upd nt) ⟨t, rfl, ?_⟩⟩⟩
      rw [upd_same]
      show some (HO.tup [V.str k, .int (c + 0)]) = some (.tup [.str k, .int c])
      rw [Int.add_zero]
    | some r =>
      obtain ⟨t, rfl, ht⟩ := hv
      refine ⟨_, rfl, rfl, _, rfl, iteN rfl ⟨_, rfl, t, _, 0, _, rfl, rfl, .of ht, at0, _, rfl, rfl, _, rfl, ite2 (fun e => ?_) (fun e => ?_)⟩⟩
      · have e : r.1 = k := V.str.inj (of_decide_eq_true e)
        refine ⟨_, rfl, _, rfl, _, rfl, rfl, _, rfl, iteN rfl ⟨_, rfl, t, _, 1, _, rfl, rfl, .of ht, at1, _, _, rfl, rfl, (by show 2 ≤ sizeLine; decide), fun u nu => q _ _ (same_upd nu) ?_⟩⟩
        rw [show stepR (some r) k c = some (k, r.2 + c) from if_pos e, Int.add_comm]
        exact ⟨u, rfl, upd_same⟩
      · have e : r.1 ≠ k := fun z => e (decide_eq_true (by show V.str r.1 = V.str k; rw [z]))
        have es : stepR (some r) k c = if 0 < r.2 - c then some (r.1, r.2 - c) else if r.2 - c = 0 then none else some (k, -(r.2 - c)) := if_neg e
        refine ⟨_, rfl, t, _, 1, _, rfl, rfl, .of ht, at1, _, rfl, _, _, rfl, rfl, ?_⟩
        by_cases e0 : r.2 - c = 0
        · refine ⟨_, rfl, rfl, _, rfl, iteP (decide_eq_true (by show V.int (r.2 - c) = V.int 0; rw [e0])) (q _ _ (Same.refl _) ?_)⟩
          rw [es, if_neg (by omega), if_pos e0]
          rfl
        · refine ⟨_, rfl, rfl, _, rfl, iteN (decide_eq_false fun z => e0 (V.int.inj z)) ?_⟩
          by_cases e1 : 0 < r.2 - c
          · refine ⟨_, rfl, _, _, rfl, rfl, _, rfl, iteP (decide_eq_true e1) ⟨_, rfl, t, _, 0, _, rfl, rfl, .of ht, at0, _, rfl, (by show 2 ≤ sizeLine; decide), fun u nu => q _ _ (same_upd nu) ?_⟩⟩
            rw [es, if_pos e1]
            exact ⟨u, rfl, upd_same⟩
          · refine ⟨_, rfl, _, _, rfl, rfl, _, rfl, iteN (decide_eq_false e1) ⟨_, rfl, _, rfl, _, _, rfl, rfl, (by show 2 ≤ sizeLine; decide), fun u nu => q _ _ (same_upd nu) ?_⟩⟩
            rw [es, if_neg e1, if_neg e0, show -(r.2 - c) = 0 - (r.2 - c) by omega]
            exact ⟨u, rfl, upd_same⟩
end
end UP

set_option Elab.async false
set_option linter.all false
set_option maxRecDepth 100000
set_option maxHeartbeats 4000000
namespace UP
open PySem PySem.Spec PyProof.Rows L2
def sp_noneR : Sp := fun _ _ _ _ => False
theorem simR_run {H : Hp} {p : Addr} {v : V} {r : Run} {n : Nat} (z : Reel H p) (h : RunV H v r) : Sim (· ≠ p) H (n + 1) v (dP r) := by
  obtain ⟨t, rfl, h⟩ := h
  obtain ⟨_, _, _, _, _, _, hs, _⟩ := z
  exact .inr ⟨t, _, _, rfl, ne_of h hs (by intro q; cases q), .inr h, rfl, sim_pair r, Nat.le_of_ble_eq_true rfl⟩
theorem simR_st {H : Hp} {p : Addr} {v : V} {st : Option Run} (z : Reel H p) (h : StV H v st) : Sim (· ≠ p) H 2 v (dSt st) := by
  cases st with
  | none =>
    cases h
    exact .inl (.inl ⟨rfl, rfl⟩)
  | some r => exact simR_run z h
section
variable {P : Program} {w : World} {K : PySem.W.Frag} {mg : Str → Option Value} {base : Heap}
/-! _law_dressed: slots 0:reel 1:value 2:parts 3:part -/
abbrev s_law_dressed : Stmt := topS 38
theorem sc_law_dressed : FnScope ["reel", "value", "parts", "part"] ["reel", "value"] (defScope s_law_dressed) := ⟨rfl, rfl, rfl, by decide +kernel, rfl, by decide +kernel, by decide +kernel⟩
def sp_law_dressed (n : Nat) : Sp := fun vs H Q _ => ∃ (sp : Addr) (v : V) (d : PyData), vs = [.ref sp, v] ∧ Reel H sp ∧ Sim (· ≠ sp) H n v d ∧ ∀ H' v', RB sp H H' → Reel H' sp → Sim (fun a => H a = none) H' n v' d → Q v' H'
def sp_pred : Nat → Sp
  | 0 => sp_noneR
  | n + 1 => sp_law_dressed n
theorem none_law_dressed (D : Df K mg "_law_dressed" s_law_dressed) : Has P w K mg base 1 "_law_dressed" ["reel", "value"] sp_noneR :=
  has_of D sc_law_dressed (fun _ _ _ _ _ _ us hl => match us, hl with | [_, _], _ => rfl) (fun _ _ _ _ h => h.elim) (fun _ _ _ _ _ _ _ _ _ _ h => h.elim)
theorem step_law_dressed (D : Df K mg "_law_dressed" s_law_dressed) (T : Tx mg) (m : Nat) (G_law_draw : Has P w K mg base 1 "_law_draw" ["reel", "many"] sp_law_draw) (G_law_dressed : Has P w K mg base (m + 1) "_law_dressed" ["reel", "value"] (sp_pred m)) :
    Has P w K mg base (m + 2) "_law_dressed" ["reel", "value"] (sp_law_dressed m) := by
  refine has_of D sc_law_dressed (fun _ _ _ _ _ _ us hl => match us, hl with | [_, _], _ => rfl) (fun vs H Q E h => ?_) (fun f cdv A outer s H vs Q E hr h => ?_)
  · obtain ⟨_, _, _, rfl, _⟩ := h
    rfl
  · obtain ⟨sp, v, d, rfl, hz, hv, q⟩ := h
    refine ⟨_, (pss_cons (ps_if (pt_not (pt_val (pe_callB call_isiT (by rfl) T.n_isinstance (by decide +kernel) (pa_cons (pv 1) (pa_cons (pe_tup (pa_cons (pe_bltn (v := .ty "list") (by rfl) T.n_list (by decide +kernel) rfl) (pa_cons (pe_bltn (v := .ty "tuple") (by rfl) T.n_tuple (by decide +kernel) rfl) pa_nil))) pa_nil))))) (pss_one (ps_ret (pv 1))) pss_nil)
    (pss_cons (ps_setLc (i := 2) (own := [("part", 3)]) rfl sc_law_dressed.nd rfl rfl (sw_true rfl rfl rfl (by decide +kernel)) (pi_seqA 1) (blkOk_by (N := ["reel", "value", "parts", "part"]) (sc := defScope s_law_dressed) (by decide +kernel)) (fun _ _ _ _ _ => (pg_name (i := 3) sc_law_dressed.nd rfl (by first | exact Or.inl rfl | exact Or.inr rfl))) (fun _ _ _ _ _ => pts_nil) (fun _ _ _ _ _ => (pe_callH G_law_dressed (hr.mono (by omega)) (by rfl) (pa_cons (pv 0) (pa_cons (pv 3) pa_nil)))))
    (pss_one (ps_ret (pe_ifExp (pt_cmpR op_eq (pe_callH G_law_draw (hr.mono (by omega)) (by rfl) (pa_cons (pv 0) (pa_cons pe_int pa_nil))) pe_int (nomark _)) (pv 2) (pe_callTy call_tuple_of (by rfl) T.n_tuple (by decide +kernel) (pa_cons (pv 2) pa_nil))))))), ?_⟩
    have hs : Dsc v d ∨ ∃ n, m = n + 1 ∧ ∃ a xs ds, v = .ref a ∧ a ≠ sp ∧ Sq2 H a xs ∧ d = .list ds ∧ Paired (Sim (· ≠ sp) H n) xs ds ∧ ds.length ≤ 1000 := by
      cases m with
      | zero => exact .inl hv
      | succ n =>
        rcases hv with hv | hv
        · exact .inl hv
        · exact .inr ⟨n, rfl, hv⟩
    rcases hs with hs | ⟨n, rfl, a, xs, ds, rfl, na, hx, rfl, px, ld⟩
    · have fin : ∀ t, H t = none → Q v (upd H t (.tup [.ty "list", .ty "tuple"])) := fun t nt => q _ _ (RB.of (same_upd nt)) (hz.same (same_upd nt)) (Sim.dsc hs)
      rcases hs with ⟨rfl, _⟩ | ⟨b, rfl, _⟩ | ⟨i, rfl, _⟩ | ⟨z, rfl, _⟩
      · exact ⟨_, rfl, (by show 2 ≤ sizeLine; decide), fun tp nt => ⟨_, tp, _, _, _, false, rfl, upd_same, .cons (.ty "list") (.cons (.ty "tuple") .nil), .base .non, kit_no (by decide +kernel) (by decide +kernel), false, rfl, iteT ⟨_, rfl, fin tp nt⟩⟩⟩
      · exact ⟨_, rfl, (by show 2 ≤ sizeLine; decide), fun tp nt => ⟨_, tp, _, _, _, false, rfl, upd_same, .cons (.ty "list") (.cons (.ty "tuple") .nil), .base (.bl b), kit_no (by decide +kernel) (by decide +kernel), false, rfl, iteT ⟨_, rfl, fin tp nt⟩⟩⟩
      · exact ⟨_, rfl, (by show 2 ≤ sizeLine; decide), fun tp nt => ⟨_, tp, _, _, _, false, rfl, upd_same, .cons (.ty "list") (.cons (.ty "tuple") .nil), .base (.int i), kit_no (by decide +kernel) (by decide +kernel), false, rfl, iteT ⟨_, rfl, fin tp nt⟩⟩⟩
      · exact ⟨_, rfl, (by show 2 ≤ sizeLine; decide), fun tp nt => ⟨_, tp, _, _, _, false, rfl, upd_same, .cons (.ty "list") (.cons (.ty "tuple") .nil), .base (.str z), kit_no (by decide +kernel) (by decide +kernel), false, rfl, iteT ⟨_, rfl, fin tp nt⟩⟩⟩
    · have lx : xs.length = ds.length := Paired.len px
      refine ⟨_, rfl, (by show 2 ≤ sizeLine; decide), fun tp nt => ?_⟩
      have st : Same H (upd H tp (.tup [.ty "list", .ty "tuple"])) := same_upd nt
      have z1 := hz.same st
      have hx1 := hx.same st
      have px1 : Paired (Sim (· ≠ sp) (upd H tp (.tup [.ty "list", .ty "tuple"])) n) xs ds := Paired.imp (fun _ _ z => Sim.keep (fun _ h => h) (fun _ _ _ e => st _ _ e) z) px
      have fr1 : ∀ b, (upd H tp (.tup [.ty "list", .ty "tuple"])) b = none → H b = none := fun b e => st.free e
      have B1 : RB sp H (upd H tp (.tup [.ty "list", .ty "tuple"])) := RB.of st
      have tpT : (upd H tp (.tup [.ty "list", .ty "tuple"])) tp = some (.tup [.ty "list", .ty "tuple"]) := upd_same
      clear px
      generalize (upd H tp (.tup [.ty "list", .ty "tuple"])) = H1 at z1 hx1 px1 fr1 B1 tpT
      have isi : ∃ c, TyX K H1 (.ref a) (.type c) ∧ PySem.W.kitAny K (.type c) [.type "list", .type "tuple"] = some true := hx1.elim (fun z => ⟨"list", .base (.lst z), kit_lst⟩) (fun z => ⟨"tuple", .base (.tup z), kit_tup⟩)
      obtain ⟨c, ty, ki⟩ := isi
      refine ⟨_, tp, _, _, _, true, rfl, tpT, .cons (.ty "list") (.cons (.ty "tuple") .nil), ty, ki, true, rfl, iteF ?_⟩
      refine ⟨a, xs, rfl, hx1, fun J wk L nL => ?_⟩
      have nLs : L ≠ sp := z1.ne nL
      refine lc_wka wk (fun i H' => RB sp H1 H' ∧ Reel H' sp ∧ Off H' sp L ∧ ∃ ys, H' L = some (.lst ys) ∧ Paired (Sim (fun b => H1 b = none ∧ b ≠ L) H' n) ys (ds.take i)) (fun i H' p => ?_) ⟨RB.of (same_upd nL), z1.same (same_upd nL), (z1.off nL).upd nLs, [], upd_same, .nil⟩ (fun i x H2 ex p => ?_) (fun H2 p => ?_)
      · rcases hx1 with z | z
        · exact (p.1.but _ _ na z).trans z.symm
        · exact (p.1.but _ _ na z).trans z.symm
      · obtain ⟨b2, z2, o2, ys, hL, hy⟩ := p
        obtain ⟨d, ed, hd⟩ := Paired.at px1 ex
        have hi : i < xs.length := (List.getElem?_eq_some_iff.mp ex).1
        refine ⟨rfl, yesT ⟨_, rfl, _, rfl, sp, x, d, rfl, z2, Sim.keep (fun _ h => h) (fun b o nb e => b2.but b o nb e) hd, fun H3 v3 b3 z3 h3 => ⟨ys, b3.but _ _ nLs hL, ?_, ?_, ?_, ?_, _, upd_same, ?_⟩⟩⟩
        · have := Paired.len hy
          rw [List.length_take] at this
          exact small (by omega)
        · exact (b2.trans b3).grow nL (b3.off _ _ hL o2)
        · exact z3.upd (b3.off _ _ hL o2)
        · exact (b3.off _ _ hL o2).upd nLs
        · have old : ∀ b o, (H1 b = none ∧ b ≠ L) → H2 b = some o → upd H3 L (.lst (ys ++ [v3])) b = some o := by
            intro b o nb e
            rw [upd_ne nb.2]
            exact b3.but b o (z1.ne nb.1) e
          rw [take_snoc ed]
          refine Paired.app (Paired.imp (fun _ _ z => Sim.keep (fun _ h => h) old z) hy) (.cons (Sim.keep (fun b nb => ?_) (fun b o nb e => ?_) h3) .nil)
          · exact ⟨b2.free z2 nb, fun z => by rw [z, hL] at nb; cases nb⟩
          · rw [upd_ne (fun z => by rw [z, hL] at nb; cases nb)]
            exact e
      · obtain ⟨b2, z2, o2, ys, hL, hy⟩ := p
        rw [lx, List.take_length] at hy
        have ly := Paired.len hy
        refine ⟨_, rfl, sp, 2, rfl, z2, by decide, by decide, fun H3 r3 b3 z3 r30 r31 => ⟨rfl, _, rfl, ?_⟩⟩
        have hL3 := b3.but _ _ nLs hL
        have hy3 : Paired (Sim (fun b => H b = none) H3 n) ys ds := Paired.imp (fun _ _ z => Sim.keep (fun b nb => fr1 b nb.1) (fun b o nb e => b3.but b o (z1.ne nb.1) e) z) hy
        have B3 : RB sp H H3 := B1.trans (b2.trans b3)
        by_cases e : r3 = 0
        · subst e
          exact iteP (decide_eq_true rfl) ⟨_, rfl, q _ _ B3 z3 (.inr ⟨L, ys, ds, rfl, fr1 L nL, .inl hL3, rfl, hy3, ld⟩)⟩
        · refine iteN (decide_eq_false fun z => e (V.int.inj z)) ⟨_, rfl, L, ys, rfl, .inl ⟨.of hL3, fun p np => q _ _ (B3.trans (RB.of (same_upd np))) (z3.same (same_upd np)) (.inr ⟨p, ys, ds, rfl, B3.free z3 np, .inr upd_same, rfl, ?_, ld⟩)⟩⟩
          exact Paired.imp (fun _ _ z => Sim.keep (fun _ h => h) (fun _ _ _ e => same_upd np _ _ e) z) hy3
theorem ok_law_dressed (D : Df K mg "_law_dressed" s_law_dressed) (T : Tx mg) (G_law_draw : Has P w K mg base 1 "_law_draw" ["reel", "many"] sp_law_draw) : ∀ n, Has P w K mg base (n + 2) "_law_dressed" ["reel", "value"] (sp_law_dressed n)
  | 0 => step_law_dressed D T 0 G_law_draw (none_law_dressed D)
  | n + 1 => step_law_dressed D T (n + 1) G_law_draw (ok_law_dressed D T G_law_draw n)
end
end UP

set_option Elab.async false
set_option linter.all false
set_option maxRecDepth 100000
set_option maxHeartbeats 4000000
namespace UP
open PySem PySem.Spec PyProof.Rows L2
/-! ### distances -/
def kdV : Option Run → V
  | none => .non
  | some r => .str r.1
def distR (a b : Option Run) : Int := if kdV a = kdV b then (if numR a - numR b < 0 then -(numR a - numR b) else numR a - numR b) else numR a + numR b
theorem dist_ss (r s : Run) : distR (some r) (some s) = if r.1 = s.1 then (if r.2 - s.2 < 0 then -(r.2 - s.2) else r.2 - s.2) else r.2 + s.2 := by
  unfold distR
  by_cases e : r.1 = s.1
  · rw [if_pos e, if_pos (by show V.str r.1 = V.str s.1; rw [e])]
    rfl
  · rw [if_neg e, if_neg (show ¬ kdV (some r) = kdV (some s) from fun z => e (V.str.inj z))]
    rfl
theorem dist_nn : distR none none = 0 := rfl
theorem dist_ns (r : Run) : distR none (some r) = r.2 := by
  unfold distR
  rw [if_neg (by intro z; cases z)]
  show 0 + r.2 = r.2
  omega
theorem dist_sn (r : Run) : distR (some r) none = r.2 := by
  unfold distR
  rw [if_neg (by intro z; cases z)]
  show r.2 + 0 = r.2
  omega
theorem dist_comm (a b : Option Run) : distR a b = distR b a := by
  cases a with
  | none =>
    cases b with
    | none => rfl
    | some s => rw [dist_ns, dist_sn]
  | some r =>
    cases b with
    | none => rw [dist_ns, dist_sn]
    | some s =>
      rw [dist_ss, dist_ss]
      by_cases e : r.1 = s.1
      · rw [if_pos e, if_pos e.symm]
        split <;> split <;> omega
      · rw [if_neg e, if_neg fun z => e z.symm]
        omega
theorem dist_zero {a b : Option Run} (pa : PosO a) (pb : PosO b) : distR a b = 0 ↔ a = b := by
  cases a with
  | none =>
    cases b with
    | none => exact ⟨fun _ => rfl, fun _ => rfl⟩
    | some s =>
      have := pb s rfl
      rw [dist_ns]
      exact ⟨fun z => by omega, fun z => by cases z⟩
  | some r =>
    have h1 := pa r rfl
    cases b with
    | none =>
      rw [dist_sn]
      exact ⟨fun z => by omega, fun z => by cases z⟩
    | some s =>
      have h2 := pb s rfl
      rw [dist_ss]
      constructor
      · intro z
        by_cases e : r.1 = s.1
        · rw [if_pos e] at z
          have : r.2 = s.2 := by
            split at z <;> omega
          rw [show r = s from Prod.ext e this]
        · rw [if_neg e] at z
          omega
      · intro z
        cases z
        rw [if_pos rfl]
        split <;> omega
theorem dist_tri {a b c : Option Run} (pa : PosO a) (pb : PosO b) (pc : PosO c) : ¬ distR a c + distR c b < distR a b := by
  cases a with
  | none =>
    cases b with
    | none =>
      cases c with
      | none => rw [dist_nn]; omega
      | some t =>
        have := pc t rfl
        rw [dist_nn, dist_ns, dist_sn]
        omega
    | some s =>
      have h2 := pb s rfl
      cases c with
      | none => rw [dist_nn, dist_ns]; omega
      | some t =>
        have := pc t rfl
        rw [dist_ns, dist_ss, dist_ns]
        split
        · split <;> omega
        · omega
  | some r =>
    have h1 := pa r rfl
    cases b with
    | none =>
      cases c with
      | none => rw [dist_nn, dist_sn]; omega
      | some t =>
        have := pc t rfl
        rw [dist_sn, dist_sn, dist_ss]
        split
        · split <;> omega
        · omega
    | some s =>
      have h2 := pb s rfl
      cases c with
      | none =>
        rw [dist_sn, dist_ns, dist_ss]
        split
        · split <;> omega
        · omega
      | some t =>
        have h3 := pc t rfl
        rw [dist_ss, dist_ss, dist_ss]
        by_cases e1 : r.1 = t.1
        · by_cases e2 : t.1 = s.1
          · rw [if_pos e1, if_pos e2, if_pos (e1.trans e2)]
            split <;> split <;> split <;> omega
          · rw [if_pos e1, if_neg e2, if_neg (fun z => e2 (e1.symm.trans z))]
            split <;> omega
        · by_cases e2 : t.1 = s.1
          · rw [if_neg e1, if_pos e2, if_neg (show ¬ r.1 = s.1 from fun z => e1 (z.trans e2.symm))]
            split <;> omega
          · rw [if_neg e1, if_neg e2]
            split
            · split <;> omega
            · omega
/-- one arrival: the distance stays or falls by 2 -/
theorem dist_step {a b : Option Run} {k : Str} (pa : PosO a) (pb : PosO b) : distR (stepR a k 1) (stepR b k 1) = distR a b ∨ distR (stepR a k 1) (stepR b k 1) = distR a b - 2 := by
  have sn : stepR none k 1 = some (k, 1) := rfl
  have sp : ∀ r : Run, 1 ≤ r.2 → (r.1 = k ∧ stepR (some r) k 1 = some (k, r.2 + 1)) ∨ (r.1 ≠ k ∧ 2 ≤ r.2 ∧ stepR (some r) k 1 = some (r.1, r.2 - 1)) ∨ (r.1 ≠ k ∧ r.2 = 1 ∧ stepR (some r) k 1 = none) := by
    intro r h
    by_cases e : r.1 = k
    · exact .inl ⟨e, if_pos e⟩
    · have es : stepR (some r) k 1 = if 0 < r.2 - 1 then some (r.1, r.2 - 1) else if r.2 - 1 = 0 then none else some (k, -(r.2 - 1)) := if_neg e
      by_cases g : 2 ≤ r.2
      · rw [if_pos (by omega)] at es
        exact .inr (.inl ⟨e, g, es⟩)
      · rw [if_neg (by omega), if_pos (by omega)] at es
        exact .inr (.inr ⟨e, by omega, es⟩)
  cases a with
  | none =>
    cases b with
    | none =>
      rw [sn, dist_ss, if_pos rfl, dist_nn]
      left
      split <;> omega
    | some s =>
      have h2 := pb s rfl
      rcases sp s h2 with ⟨e, es⟩ | ⟨e, g, es⟩ | ⟨e, g, es⟩
      · rw [sn, es, dist_ss, dist_ns, if_pos rfl]
        left
        show (if 1 - (s.2 + 1) < 0 then -(1 - (s.2 + 1)) else 1 - (s.2 + 1)) = s.2
        split <;> omega
      · rw [sn, es, dist_ss, dist_ns, if_neg fun z => e z.symm]
        left
        show 1 + (s.2 - 1) = s.2
        omega
      · rw [sn, es, dist_sn, dist_ns]
        left
        show 1 = s.2
        omega
  | some r =>
    have h1 := pa r rfl
    cases b with
    | none =>
      rcases sp r h1 with ⟨e, es⟩ | ⟨e, g, es⟩ | ⟨e, g, es⟩
      · rw [sn, es, dist_ss, dist_sn, if_pos rfl]
        left
        show (if r.2 + 1 - 1 < 0 then -(r.2 + 1 - 1) else r.2 + 1 - 1) = r.2
        split <;> omega
      · rw [sn, es, dist_ss, dist_sn, if_neg e]
        left
        show r.2 - 1 + 1 = r.2
        omega
      · rw [sn, es, dist_ns, dist_sn]
        left
        show 1 = r.2
        omega
    | some s =>
      have h2 := pb s rfl
      rw [dist_ss r s]
      rcases sp r h1 with ⟨e, es⟩ | ⟨e, g, es⟩ | ⟨e, g, es⟩
      · rcases sp s h2 with ⟨f, fs⟩ | ⟨f, j, fs⟩ | ⟨f, j, fs⟩
        · rw [es, fs, dist_ss, if_pos rfl, if_pos (e.trans f.symm)]
          left
          show (if r.2 + 1 - (s.2 + 1) < 0 then -(r.2 + 1 - (s.2 + 1)) else r.2 + 1 - (s.2 + 1)) = _
          split <;> split <;> omega
        · rw [es, fs, dist_ss, if_neg (fun z => f z.symm), if_neg (fun z => f (z.symm.trans e))]
          left
          show r.2 + 1 + (s.2 - 1) = _
          omega
        · rw [es, fs, dist_sn, if_neg (fun z => f (z.symm.trans e))]
          left
          show r.2 + 1 = _
          omega
      · rcases sp s h2 with ⟨f, fs⟩ | ⟨f, j, fs⟩ | ⟨f, j, fs⟩
        · rw [es, fs, dist_ss, if_neg e, if_neg (fun z => e (z.trans f))]
          left
          show r.2 - 1 + (s.2 + 1) = _
          omega
        · rw [es, fs, dist_ss]
          show (if r.1 = s.1 then (if r.2 - 1 - (s.2 - 1) < 0 then -(r.2 - 1 - (s.2 - 1)) else r.2 - 1 - (s.2 - 1)) else r.2 - 1 + (s.2 - 1)) = _ ∨ (if r.1 = s.1 then (if r.2 - 1 - (s.2 - 1) < 0 then -(r.2 - 1 - (s.2 - 1)) else r.2 - 1 - (s.2 - 1)) else r.2 - 1 + (s.2 - 1)) = _
          by_cases u : r.1 = s.1
          · rw [if_pos u, if_pos u]
            left
            split <;> split <;> omega
          · rw [if_neg u, if_neg u]
            right
            omega
        · rw [es, fs, dist_sn]
          show r.2 - 1 = _ ∨ r.2 - 1 = _
          by_cases u : r.1 = s.1
          · rw [if_pos u]
            left
            split <;> omega
          · rw [if_neg u]
            right
            omega
      · rcases sp s h2 with ⟨f, fs⟩ | ⟨f, j, fs⟩ | ⟨f, j, fs⟩
        · rw [es, fs, dist_ns, if_neg (fun z => e (z.trans f))]
          left
          show s.2 + 1 = _
          omega
        · rw [es, fs, dist_ns]
          show s.2 - 1 = _ ∨ s.2 - 1 = _
          by_cases u : r.1 = s.1
          · rw [if_pos u]
            left
            split <;> omega
          · rw [if_neg u]
            right
            omega
        · rw [es, fs, dist_nn]
          by_cases u : r.1 = s.1
          · rw [if_pos u]
            left
            split <;> omega
          · rw [if_neg u]
            right
            omega
section
variable {P : Program} {w : World} {K : PySem.W.Frag} {mg : Str → Option Value} {base : Heap}
/-! kind_of: slots 0:state -/
abbrev s_kind_of : Stmt := topS 24
theorem sc_kind_of : FnScope ["state"] ["state"] (defScope s_kind_of) := ⟨rfl, rfl, rfl, by decide +kernel, rfl, by decide +kernel, by decide +kernel⟩
def sp_kind_of : Sp := fun vs H Q _ => ∃ (v : V) (st : Option Run), vs = [v] ∧ StV H v st ∧ Q (kdV st) H
theorem ok_kind_of (D : Df K mg "kind_of" s_kind_of) : Has P w K mg base 1 "kind_of" ["state"] sp_kind_of := by
  refine has_of D sc_kind_of (fun _ _ _ _ _ _ us hl => match us, hl with | [_], _ => rfl) (fun vs H Q E h => ?_) (fun f cdv A outer s₀ H vs Q E hr h => ?_)
  · obtain ⟨a, rs, rfl, _⟩ := h
    rfl
  · obtain ⟨v, st, rfl, hv, q⟩ := h
    refine ⟨_, (pss_one (ps_ret (pe_ifExp (pt_cmpR op_isN (pv 0) pe_non (nomark _)) pe_non (pe_ix ix_tup (pv 0) pe_int (fun _ _ => rfl))))), ?_⟩
    cases st with
    | none =>
      cases hv
      exact ⟨_, rfl, rfl, _, rfl, iteP rfl q⟩
    | some r =>
      obtain ⟨t, rfl, ht⟩ := hv
      exact ⟨_, rfl, rfl, _, rfl, iteN rfl ⟨_, rfl, t, _, 0, _, rfl, rfl, .of ht, at0, q⟩⟩
theorem scal_kd (a b : Option Run) : scal (kdV a) (kdV b) = true := by
  cases a <;> cases b <;> rfl
end
end UP

set_option Elab.async false
set_option linter.all false
set_option maxRecDepth 100000
set_option maxHeartbeats 4000000
namespace UP
open PySem PySem.Spec PyProof.Rows L2
theorem RB.rung {p : Addr} {H H' : Hp} {v : V} {r : Run} (b : RB p H H') (z : Reel H p) (h : RunG H v r) : RunG H' v r := by
  obtain ⟨t, e, h⟩ := h
  obtain ⟨_, _, _, _, _, _, hp, _⟩ := z
  refine ⟨t, e, h.elim (fun y => .inl (b.but _ _ (ne_of y hp (by intro q; cases q)) y)) (fun y => .inr (b.but _ _ (ne_of y hp (by intro q; cases q)) y))⟩
theorem RB.stg {p : Addr} {H H' : Hp} {v : V} {st : Option Run} (b : RB p H H') (z : Reel H p) (h : StG H v st) : StG H' v st := by
  cases st with
  | none => exact h
  | some r => exact b.rung z h
theorem stOk_step {a : Option Run} {k : Str} (h : StOk a) (kk : KindOk k) : StOk (stepR a k 1) := by
  intro r e
  have p := stepR_pos (k := k) (c := 1) (fun r e => (h r e).2) (by decide) r e
  refine ⟨?_, p⟩
  cases a with
  | none =>
    cases e
    exact kk
  | some s =>
    have hs := h s rfl
    by_cases e1 : s.1 = k
    · rw [show stepR (some s) k 1 = some (k, s.2 + 1) from if_pos e1] at e
      cases e
      exact kk
    · rw [show stepR (some s) k 1 = if 0 < s.2 - 1 then some (s.1, s.2 - 1) else if s.2 - 1 = 0 then none else some (k, -(s.2 - 1)) from if_neg e1] at e
      split at e
      · cases e
        exact hs.1
      · split at e
        · cases e
        · cases e
          exact kk
def dOt : Option Run → PyData
  | none => .none
  | some r => dRun r
theorem dp_o {K : PySem.W.Frag} {H : Hp} {v : V} {st : Option Run} (h : StV H v st) : Dp K H v (dOt st) := by
  cases st with
  | none =>
    cases h
    exact .non
  | some r => exact dp_run h
theorem shaped_o {st : Option Run} (h : StOk st) : SeqAt.shaped (dOt st) = true := by
  cases st with
  | none => decide
  | some r => exact shaped_run (h r rfl).1
theorem eqv_o (a b : Option Run) : PyData.eqv (dOt a) (dOt b) = decide (a = b) := by
  cases a with
  | none =>
    cases b with
    | none => simp [dOt, PyData.eqv]
    | some s => simp [dOt, dRun, PyData.eqv]
  | some r =>
    cases b with
    | none => simp [dOt, dRun, PyData.eqv]
    | some s =>
      obtain ⟨r1, r2⟩ := r
      obtain ⟨s1, s2⟩ := s
      simp [dOt, dRun, PyData.eqv, PyData.eqvAll]
      rw [Bool.eq_iff_iff]
      simp
theorem dps_stN {K : PySem.W.Frag} {H : Hp} {v : V} {st : Option Run} (h : StG H v st) (k : ∀ r, st = some r → KindOk r.1 ∧ r.2.natAbs < 10 ^ 60) : ∃ d, DpS K H v d ∧ Nice 404 1 d := by
  cases st with
  | none =>
    cases h
    exact ⟨.none, fun _ _ => .non, nice_none.mono (by decide) (by decide)⟩
  | some r => exact dps_run (K := K) h (k r rfl).1 (k r rfl).2
theorem nice_il {w : Nat} {l : List Int} (h : ∀ x ∈ l, x.natAbs < 10 ^ 60) (hw : 202 * l.length ≤ w) : Nice w 1 (.list (l.map PyData.int)) := by
  have := nice_list (w := 201) (n := 0) (ds := l.map PyData.int) fun d hd => by
    obtain ⟨x, hx, rfl⟩ := List.mem_map.mp hd
    exact nice_int (h x hx)
  exact this.mono (by rw [List.length_map]; omega) (Nat.le_refl _)
theorem dist_bd {a b : Option Run} (pa : PosO a) (pb : PosO b) {m : Int} (ha : ∀ r, a = some r → r.2 ≤ m) (hb : ∀ r, b = some r → r.2 ≤ m) (m0 : 0 ≤ m) : 0 ≤ distR a b ∧ distR a b ≤ 2 * m := by
  cases a with
  | none =>
    cases b with
    | none => rw [dist_nn]; omega
    | some s =>
      have := pb s rfl
      have := hb s rfl
      rw [dist_ns]; omega
  | some r =>
    have h1 := pa r rfl
    have h2 := ha r rfl
    cases b with
    | none => rw [dist_sn]; omega
    | some s =>
      have := pb s rfl
      have := hb s rfl
      rw [dist_ss]
      split
      · split <;> omega
      · omega
theorem p39 : (10 : Int) ^ ((39 : Int).toNat) = 1000000000000000000000000000000000000000 := by decide +kernel
end UP

set_option Elab.async false
set_option linter.all false
set_option maxRecDepth 100000
set_option maxHeartbeats 4000000
namespace UP
open PySem PySem.Spec PyProof.Rows L2
/-! ### meetings -/
def MW (a b : Option Run) (k : Str) (c : Int) : Prop := kdV a ≠ .str k ∧ kdV b ≠ .str k ∧ numR a = numR b ∧ numR b ≤ c
instance (a b : Option Run) (k : Str) (c : Int) : Decidable (MW a b k c) := by
  unfold MW
  infer_instance
theorem MW.comm {a b : Option Run} {k : Str} {c : Int} : MW a b k c ↔ MW b a k c := by
  unfold MW
  exact ⟨fun h => ⟨h.2.1, h.1, h.2.2.1.symm, by omega⟩, fun h => ⟨h.2.1, h.1, h.2.2.1.symm, by omega⟩⟩
theorem mw_nn {k : Str} {c : Int} : MW none none k c ↔ 0 ≤ c := ⟨fun h => h.2.2.2, fun h => ⟨by (intro z; cases z), by (intro z; cases z), rfl, h⟩⟩
theorem mw_ns {s : Run} {k : Str} {c : Int} : MW none (some s) k c ↔ s.1 ≠ k ∧ 0 = s.2 ∧ s.2 ≤ c := ⟨fun h => ⟨fun z => h.2.1 (by show V.str s.1 = V.str k; rw [z]), h.2.2.1, h.2.2.2⟩, fun h => ⟨by (intro z; cases z), fun z => h.1 (V.str.inj z), h.2.1, h.2.2⟩⟩
theorem mw_sn {s : Run} {k : Str} {c : Int} : MW (some s) none k c ↔ s.1 ≠ k ∧ s.2 = 0 ∧ 0 ≤ c := ⟨fun h => ⟨fun z => h.1 (by show V.str s.1 = V.str k; rw [z]), h.2.2.1, h.2.2.2⟩, fun h => ⟨fun z => h.1 (V.str.inj z), by (intro z; cases z), h.2.1, h.2.2⟩⟩
theorem mw_ss {r s : Run} {k : Str} {c : Int} : MW (some r) (some s) k c ↔ r.1 ≠ k ∧ s.1 ≠ k ∧ r.2 = s.2 ∧ s.2 ≤ c := ⟨fun h => ⟨fun z => h.1 (by show V.str r.1 = V.str k; rw [z]), fun z => h.2.1 (by show V.str s.1 = V.str k; rw [z]), h.2.2.1, h.2.2.2⟩, fun h => ⟨fun z => h.1 (V.str.inj z), fun z => h.2.1 (V.str.inj z), h.2.2⟩⟩
theorem step_cases {r : Run} {k : Str} {c : Int} : (r.1 = k ∧ stepR (some r) k c = some (k, r.2 + c)) ∨ (r.1 ≠ k ∧ c < r.2 ∧ stepR (some r) k c = some (r.1, r.2 - c)) ∨ (r.1 ≠ k ∧ r.2 = c ∧ stepR (some r) k c = none) ∨ (r.1 ≠ k ∧ r.2 < c ∧ stepR (some r) k c = some (k, c - r.2)) := by
  by_cases e : r.1 = k
  · exact .inl ⟨e, if_pos e⟩
  · have es : stepR (some r) k c = if 0 < r.2 - c then some (r.1, r.2 - c) else if r.2 - c = 0 then none else some (k, -(r.2 - c)) := if_neg e
    by_cases g : c < r.2
    · rw [if_pos (by omega)] at es
      exact .inr (.inl ⟨e, g, es⟩)
    · by_cases h : r.2 = c
      · rw [if_neg (by omega), if_pos (by omega)] at es
        exact .inr (.inr (.inl ⟨e, h, es⟩))
      · rw [if_neg (by omega), if_neg (by omega), show -(r.2 - c) = c - r.2 by omega] at es
        exact .inr (.inr (.inr ⟨e, by omega, es⟩))
theorem some_pair {a b : Str} {m n : Int} : (some (a, m) : Option Run) = some (b, n) ↔ a = b ∧ m = n := ⟨fun h => by cases h; exact ⟨rfl, rfl⟩, fun h => by rw [h.1, h.2]⟩
/-- within a run two different states become equal only together with the last of both -/
theorem meet_iff {a b : Option Run} {k : Str} {c : Int} (pa : PosO a) (pb : PosO b) (ne : a ≠ b) (c1 : 1 ≤ c) : stepR a k c = stepR b k c ↔ MW a b k c := by
  cases a with
  | none =>
    cases b with
    | none => exact absurd rfl ne
    | some s =>
      have h2 := pb s rfl
      rw [mw_ns, show stepR none k c = some (k, c) from rfl]
      rcases step_cases (r := s) (k := k) (c := c) with ⟨e, es⟩ | ⟨e, g, es⟩ | ⟨e, g, es⟩ | ⟨e, g, es⟩
      · rw [es, some_pair]
        exact ⟨fun z => (by omega), fun z => by omega⟩
      · rw [es, some_pair]
        exact ⟨fun z => absurd z.1.symm e, fun z => by omega⟩
      · rw [es]
        exact ⟨fun z => (by cases z), fun z => by omega⟩
      · rw [es, some_pair]
        exact ⟨fun z => (by omega), fun z => by omega⟩
  | some r =>
    have h1 := pa r rfl
    cases b with
    | none =>
      rw [mw_sn, show stepR none k c = some (k, c) from rfl]
      rcases step_cases (r := r) (k := k) (c := c) with ⟨e, es⟩ | ⟨e, g, es⟩ | ⟨e, g, es⟩ | ⟨e, g, es⟩
      · rw [es, some_pair]
        exact ⟨fun z => (by omega), fun z => by omega⟩
      · rw [es, some_pair]
        exact ⟨fun z => absurd z.1 e, fun z => by omega⟩
      · rw [es]
        exact ⟨fun z => (by cases z), fun z => by omega⟩
      · rw [es, some_pair]
        exact ⟨fun z => (by omega), fun z => by omega⟩
    | some s =>
      have h2 := pb s rfl
      have ne2 : ¬ (r.1 = s.1 ∧ r.2 = s.2) := fun z => ne (by rw [show r = s from Prod.ext z.1 z.2])
      rw [mw_ss]
      rcases step_cases (r := r) (k := k) (c := c) with ⟨e, es⟩ | ⟨e, g, es⟩ | ⟨e, g, es⟩ | ⟨e, g, es⟩
      · rcases step_cases (r := s) (k := k) (c := c) with ⟨f, fs⟩ | ⟨f, j, fs⟩ | ⟨f, j, fs⟩ | ⟨f, j, fs⟩
        · rw [es, fs, some_pair]
          exact ⟨fun z => absurd ⟨e.trans f.symm, by omega⟩ ne2, fun z => absurd e z.1⟩
        · rw [es, fs, some_pair]
          exact ⟨fun z => absurd z.1.symm f, fun z => absurd e z.1⟩
        · rw [es, fs]
          exact ⟨fun z => (by cases z), fun z => absurd e z.1⟩
        · rw [es, fs, some_pair]
          exact ⟨fun z => (by omega), fun z => absurd e z.1⟩
      · rcases step_cases (r := s) (k := k) (c := c) with ⟨f, fs⟩ | ⟨f, j, fs⟩ | ⟨f, j, fs⟩ | ⟨f, j, fs⟩
        · rw [es, fs, some_pair]
          exact ⟨fun z => absurd z.1 e, fun z => absurd f z.2.1⟩
        · rw [es, fs, some_pair]
          exact ⟨fun z => absurd ⟨z.1, by omega⟩ ne2, fun z => by omega⟩
        · rw [es, fs]
          exact ⟨fun z => (by cases z), fun z => by omega⟩
        · rw [es, fs, some_pair]
          exact ⟨fun z => absurd z.1 e, fun z => by omega⟩
      · rcases step_cases (r := s) (k := k) (c := c) with ⟨f, fs⟩ | ⟨f, j, fs⟩ | ⟨f, j, fs⟩ | ⟨f, j, fs⟩
        · rw [es, fs]
          exact ⟨fun z => (by cases z), fun z => absurd f z.2.1⟩
        · rw [es, fs]
          exact ⟨fun z => (by cases z), fun z => by omega⟩
        · rw [es, fs]
          exact ⟨fun _ => ⟨e, f, by omega, by omega⟩, fun _ => rfl⟩
        · rw [es, fs]
          exact ⟨fun z => (by cases z), fun z => by omega⟩
      · rcases step_cases (r := s) (k := k) (c := c) with ⟨f, fs⟩ | ⟨f, j, fs⟩ | ⟨f, j, fs⟩ | ⟨f, j, fs⟩
        · rw [es, fs, some_pair]
          exact ⟨fun z => (by omega), fun z => absurd f z.2.1⟩
        · rw [es, fs, some_pair]
          exact ⟨fun z => absurd z.1.symm f, fun z => by omega⟩
        · rw [es, fs]
          exact ⟨fun z => (by cases z), fun z => by omega⟩
        · rw [es, fs, some_pair]
          exact ⟨fun z => ⟨e, f, by omega, by omega⟩, fun z => ⟨rfl, by omega⟩⟩
/-- the moment, run by run; the states are different at the beginning -/
def mgR : List Run → Option Run → Option Run → Int → Option Int
  | [], _, _, _ => none
  | r :: t, a, b, s => if MW a b r.1 r.2 then some (s + numR a) else mgR t (stepR a r.1 r.2) (stepR b r.1 r.2) (s + r.2)
def mmR (rs : List Run) (a b : Option Run) : Option Int := if a = b then some 0 else mgR rs a b 0
theorem mg_comm : ∀ (rs : List Run) (a b : Option Run) (s : Int), mgR rs a b s = mgR rs b a s
  | [], _, _, _ => rfl
  | r :: t, a, b, s => by
    show (if MW a b r.1 r.2 then some (s + numR a) else mgR t (stepR a r.1 r.2) (stepR b r.1 r.2) (s + r.2)) = (if MW b a r.1 r.2 then some (s + numR b) else mgR t (stepR b r.1 r.2) (stepR a r.1 r.2) (s + r.2))
    by_cases h : MW a b r.1 r.2
    · rw [if_pos h, if_pos (MW.comm.mp h), h.2.2.1]
    · rw [if_neg h, if_neg fun z => h (MW.comm.mp z), mg_comm t]
theorem mm_comm (rs : List Run) (a b : Option Run) : mmR rs a b = mmR rs b a := by
  unfold mmR
  by_cases h : a = b
  · rw [if_pos h, if_pos h.symm]
  · rw [if_neg h, if_neg fun z => h z.symm, mg_comm]
theorem lenR_nn {rs : List Run} (k : ∀ r ∈ rs, 1 ≤ r.2) : 0 ≤ lenR rs := by
  rw [← len_it rs k]
  exact Int.natCast_nonneg _
theorem num_nn {a : Option Run} (p : PosO a) : 0 ≤ numR a := by
  cases a with
  | none => exact Int.le_refl _
  | some r =>
    have := p r rfl
    show 0 ≤ r.2
    omega
theorem mg_bd : ∀ (rs : List Run) (a b : Option Run) (s m : Int), (∀ r ∈ rs, 1 ≤ r.2) → PosO a → PosO b → mgR rs a b s = some m → s ≤ m ∧ m ≤ s + lenR rs
  | [], _, _, _, _, _, _, _, h => by cases h
  | r :: t, a, b, s, m, k, pa, pb, h => by
    have c1 := k r (List.mem_cons_self ..)
    have kt : ∀ x ∈ t, 1 ≤ x.2 := fun x hx => k x (List.mem_cons_of_mem _ hx)
    have lt : 0 ≤ lenR t := lenR_nn kt
    have h : (if MW a b r.1 r.2 then some (s + numR a) else mgR t (stepR a r.1 r.2) (stepR b r.1 r.2) (s + r.2)) = some m := h
    rw [lenR_cons]
    by_cases g : MW a b r.1 r.2
    · rw [if_pos g] at h
      have h := Option.some.inj h
      have := num_nn pa
      have := g.2.2
      omega
    · rw [if_neg g] at h
      have := mg_bd t _ _ _ m kt (stepR_pos pa c1) (stepR_pos pb c1) h
      omega
theorem mg_end : ∀ (rs : List Run) (a b : Option Run) (s m : Int), (∀ r ∈ rs, 1 ≤ r.2) → PosO a → PosO b → a ≠ b → mgR rs a b s = some m → stR rs a = stR rs b
  | [], _, _, _, _, _, _, _, _, h => by cases h
  | r :: t, a, b, s, m, k, pa, pb, ne, h => by
    have c1 := k r (List.mem_cons_self ..)
    have kt : ∀ x ∈ t, 1 ≤ x.2 := fun x hx => k x (List.mem_cons_of_mem _ hx)
    have h : (if MW a b r.1 r.2 then some (s + numR a) else mgR t (stepR a r.1 r.2) (stepR b r.1 r.2) (s + r.2)) = some m := h
    rw [stR_cons, stR_cons]
    by_cases g : MW a b r.1 r.2
    · rw [(meet_iff pa pb ne c1).mpr g]
    · rw [if_neg g] at h
      exact mg_end t _ _ _ m kt (stepR_pos pa c1) (stepR_pos pb c1) (fun z => g ((meet_iff pa pb ne c1).mp z)) h
theorem mm_end {rs : List Run} {a b : Option Run} {m : Int} (k : ∀ r ∈ rs, 1 ≤ r.2) (pa : PosO a) (pb : PosO b) (h : mmR rs a b = some m) : stR rs a = stR rs b := by
  unfold mmR at h
  by_cases e : a = b
  · rw [e]
  · rw [if_neg e] at h
    exact mg_end rs a b 0 m k pa pb e h
theorem mm_bd {rs : List Run} {a b : Option Run} {m : Int} (k : ∀ r ∈ rs, 1 ≤ r.2) (pa : PosO a) (pb : PosO b) (h : mmR rs a b = some m) : 0 ≤ m ∧ m ≤ lenR rs := by
  unfold mmR at h
  by_cases e : a = b
  · rw [if_pos e] at h
    cases h
    exact ⟨Int.le_refl _, lenR_nn k⟩
  · rw [if_neg e] at h
    have := mg_bd rs a b 0 m k pa pb h
    omega
/-- item by item -/
def fewI : List Str → Option Run → Option Run → Int → Option Int
  | [], a, b, m => if a = b then some m else none
  | k :: t, a, b, m => if a = b then some m else fewI t (stepR a k 1) (stepR b k 1) (m + 1)
theorem few_eq {l : List Str} {a : Option Run} {m : Int} : fewI l a a m = some m := by
  cases l with
  | nil => exact if_pos rfl
  | cons k t => exact if_pos rfl
theorem few_run : ∀ (c : Nat) (k : Str) (rest : List Str) (a b : Option Run) (m : Int), PosO a → PosO b → a ≠ b → fewI (List.replicate (c + 1) k ++ rest) a b m = if MW a b k ((c : Int) + 1) then some (m + numR a) else fewI rest (stepR a k ((c : Int) + 1)) (stepR b k ((c : Int) + 1)) (m + ((c : Int) + 1))
  | c, k, rest, a, b, m, pa, pb, ne => by
    have h1 : fewI (List.replicate (c + 1) k ++ rest) a b m = fewI (List.replicate c k ++ rest) (stepR a k 1) (stepR b k 1) (m + 1) := by
      rw [List.replicate_succ]
      exact if_neg ne
    have pa1 := stepR_pos (k := k) (c := 1) pa (by decide)
    have pb1 := stepR_pos (k := k) (c := 1) pb (by decide)
    have i1 := meet_iff (k := k) (c := 1) pa pb ne (by decide)
    rw [h1]
    by_cases e : stepR a k 1 = stepR b k 1
    · have w := i1.mp e
      have w2 : MW a b k ((c : Int) + 1) := ⟨w.1, w.2.1, w.2.2.1, by have := w.2.2.2; omega⟩
      have na : numR a = 1 := by
        have h3 := num_nn pa
        have h4 := w.2.2
        rcases (show numR a = 1 ∨ numR a = 0 by omega) with z | z
        · exact z
        · exfalso
          have an : a = none := by
            cases a with
            | none => rfl
            | some r =>
              have := pa r rfl
              have z : r.2 = 0 := z
              omega
          have bn : b = none := by
            cases b with
            | none => rfl
            | some r =>
              have := pb r rfl
              have z2 : r.2 = numR (some r) := rfl
              omega
          exact ne (an.trans bn.symm)
      rw [e, few_eq, if_pos w2, na]
    · cases c with
      | zero =>
        have w2 : ¬ MW a b k (((0 : Nat) : Int) + 1) := fun z => e (i1.mpr z)
        rw [if_neg w2]
        rfl
      | succ c =>
        have ih := few_run c k rest (stepR a k 1) (stepR b k 1) (m + 1) pa1 pb1 e
        rw [ih]
        have ea := step_step (s := a) (k := k) (c := (c : Int) + 1) pa (by omega)
        have eb := step_step (s := b) (k := k) (c := (c : Int) + 1) pb (by omega)
        have cc : (1 : Int) + ((c : Int) + 1) = (((c + 1 : Nat) : Int) + 1) := by omega
        rw [cc] at ea eb
        have iff1 := meet_iff (k := k) (c := (c : Int) + 1) pa1 pb1 e (by omega)
        have iff2 := meet_iff (k := k) (c := ((c + 1 : Nat) : Int) + 1) pa pb ne (by omega)
        rw [ea, eb] at iff1
        by_cases g : MW a b k (((c + 1 : Nat) : Int) + 1)
        · have g1 := iff1.mp (iff2.mpr g)
          rw [if_pos g, if_pos g1]
          congr 1
          cases a with
          | none =>
            exfalso
            have := g.2.2.1
            cases b with
            | none => exact ne rfl
            | some s =>
              have h2 := pb s rfl
              have : (0 : Int) = s.2 := this
              omega
          | some r =>
            have rk : r.1 ≠ k := fun z => g.1 (by show V.str r.1 = V.str k; rw [z])
            rcases step_cases (r := r) (k := k) (c := 1) with ⟨f, fs⟩ | ⟨f, j, fs⟩ | ⟨f, j, fs⟩ | ⟨f, j, fs⟩
            · exact absurd f rk
            · rw [fs]
              show m + 1 + (r.2 - 1) = m + r.2
              omega
            · exfalso
              have gb := g.2.2.1
              cases b with
              | none =>
                have gb : r.2 = 0 := gb
                omega
              | some s =>
                have sk : s.1 ≠ k := fun z => g.2.1 (by show V.str s.1 = V.str k; rw [z])
                have gb : r.2 = s.2 := gb
                rcases step_cases (r := s) (k := k) (c := 1) with ⟨u, us⟩ | ⟨u, v, us⟩ | ⟨u, v, us⟩ | ⟨u, v, us⟩
                · exact sk u
                · omega
                · exact e (by rw [fs, us])
                · omega
            · have := pa r rfl
              omega
        · have g1 : ¬ MW (stepR a k 1) (stepR b k 1) k ((c : Int) + 1) := fun z => g (iff2.mp (iff1.mpr z))
          rw [if_neg g, if_neg g1, ea, eb, show m + 1 + ((c : Int) + 1) = m + (((c + 1 : Nat) : Int) + 1) by omega]
theorem few_mg : ∀ (rs : List Run) (a b : Option Run) (m : Int), (∀ r ∈ rs, 1 ≤ r.2) → PosO a → PosO b → a ≠ b → fewI (itR rs) a b m = mgR rs a b m
  | [], _, _, _, _, _, _, ne => if_neg ne
  | r :: t, a, b, m, k, pa, pb, ne => by
    have c1 := k r (List.mem_cons_self ..)
    have kt : ∀ x ∈ t, 1 ≤ x.2 := fun x hx => k x (List.mem_cons_of_mem _ hx)
    obtain ⟨c, hc⟩ : ∃ c : Nat, r.2.toNat = c + 1 := ⟨r.2.toNat - 1, by omega⟩
    have er : ((c : Int) + 1) = r.2 := by omega
    have e : itR (r :: t) = List.replicate r.2.toNat r.1 ++ itR t := rfl
    rw [e, hc, few_run c r.1 (itR t) a b m pa pb ne, er]
    show _ = (if MW a b r.1 r.2 then some (m + numR a) else mgR t (stepR a r.1 r.2) (stepR b r.1 r.2) (m + r.2))
    by_cases g : MW a b r.1 r.2
    · rw [if_pos g, if_pos g]
    · rw [if_neg g, if_neg g]
      exact few_mg t _ _ _ kt (stepR_pos pa c1) (stepR_pos pb c1) (fun z => g ((meet_iff pa pb ne c1).mp z))
theorem few_mm {rs : List Run} {a b : Option Run} (k : ∀ r ∈ rs, 1 ≤ r.2) (pa : PosO a) (pb : PosO b) : fewI (itR rs) a b 0 = mmR rs a b := by
  unfold mmR
  by_cases e : a = b
  · rw [if_pos e, e, few_eq]
  · rw [if_neg e]
    exact few_mg rs a b 0 k pa pb e
def oV : Option Int → V
  | none => .non
  | some i => .int i
section
variable {P : Program} {w : World} {K : PySem.W.Frag} {mg : Str → Option Value} {base : Heap}
end
end UP

set_option Elab.async false
set_option linter.all false
set_option maxRecDepth 100000
set_option maxHeartbeats 4000000
namespace UP
open PySem PySem.Spec PyProof.Rows L2
theorem Reel.runs_ne {H : Hp} {p a : Addr} {rs : List Run} (z : Reel H p) (h : Runs H a rs) : a ≠ p := by
  obtain ⟨xs, e, hp⟩ := h
  obtain ⟨g, c, gs, cs, n, s, hs, _⟩ := z
  refine ne_of e hs fun q => ?_
  have q := HO.lst.inj q
  subst q
  cases hp with
  | cons _ hp =>
  cases hp with
  | cons _ hp =>
  cases hp with
  | cons h _ =>
    obtain ⟨t, e, _⟩ := h
    cases e
theorem RB.runs {p a : Addr} {H H' : Hp} {rs : List Run} (b : RB p H H') (z : Reel H p) (h : Runs H a rs) : Runs H' a rs := by
  have n := z.runs_ne h
  obtain ⟨xs, e, hp⟩ := h
  exact ⟨xs, b.but _ _ n e, Paired.imp (fun _ _ => b.run z) hp⟩
theorem altR_snoc {l : List Run} {x : Run} (h : Alt l) (k : ∀ y, l[l.length - 1]? = some y → y.1 ≠ x.1) : Alt (l ++ [x]) := alt_snoc h k
section
variable {P : Program} {w : World} {K : PySem.W.Frag} {mg : Str → Option Value} {base : Heap}
/-! _law_runs: slots 0:reel 1:names 2:many 3:longest 4:found 5:turn 6:kind -/
abbrev s_law_runs : Stmt := topS 33
theorem sc_law_runs : FnScope ["reel", "names", "many", "longest", "found", "turn", "kind"] ["reel", "names", "many", "longest"] (defScope s_law_runs) := ⟨rfl, rfl, rfl, by decide +kernel, rfl, by decide +kernel, by decide +kernel⟩
def sp_law_runs : Sp := fun vs H Q _ => ∃ (p l : Addr) (ks : List Str) (m g : Int), vs = [.ref p, .ref l, .int m, .int g] ∧ Reel H p ∧ H l = some (.lst (ks.map V.str)) ∧ 0 < ks.length ∧ ks.length ≤ 13 ∧ (∀ s ∈ ks, KindOk s) ∧ 0 ≤ m ∧ m ≤ 400 ∧ 1 ≤ g ∧ g ≤ 1000000000000000000000000000000 ∧
  ∀ H' L rs, RB p H H' → Reel H' p → Off H' p L → H L = none → Runs H' L rs → SeqOk rs → (rs.length : Int) ≤ m → (∀ r ∈ rs, r.2 ≤ g) → Q (.ref L) H'
theorem ok_law_runs (D : Df K mg "_law_runs" s_law_runs) (T : Tx mg) (G_law_draw : Has P w K mg base 1 "_law_draw" ["reel", "many"] sp_law_draw) : Has P w K mg base 2 "_law_runs" ["reel", "names", "many", "longest"] sp_law_runs := by
  refine has_of D sc_law_runs (fun _ _ _ _ _ _ us hl => match us, hl with | [_, _, _, _], _ => rfl) (fun vs H Q E h => ?_) (fun f cdv A outer s₀ H vs Q E hr h => ?_)
  · obtain ⟨_, _, _, _, _, rfl, _⟩ := h
    rfl
  · obtain ⟨p, l, ks, m, g, rfl, z, hl, k1, k2, okk, m0, m4, g1, g2, q⟩ := h
    refine ⟨_, (pss_cons (ps_set (i := 4) sc_law_runs.nd rfl (by first | exact Or.inl rfl | exact Or.inr rfl) (pe_lst pa_nil))
    (pss_cons (ps_for PassesOwn.never rfl (pi_range1 (by rfl) T.n_range (pa_cons (pe_callH G_law_draw (hr.mono (by omega)) (by rfl) (pa_cons (pv 0) (pa_cons (pe_op op_add (pv 2) pe_int) pa_nil))) pa_nil)) (pg_name (i := 5) sc_law_runs.nd rfl (by first | exact Or.inl rfl | exact Or.inr rfl))
      (pss_cons (ps_set (i := 6) sc_law_runs.nd rfl (by first | exact Or.inl rfl | exact Or.inr rfl) (pe_ix ix_list (pv 1) (pe_callH G_law_draw (hr.mono (by omega)) (by rfl) (pa_cons (pv 0) (pa_cons (pe_callB call_len_seq (by rfl) T.n_len (by decide +kernel) (pa_cons (pv 1) pa_nil)) pa_nil))) (fun _ _ => rfl)))
    (pss_one (ps_if (PW.pt (pw_or (pt_cmpR (op_eqD hr.units) (pv 4) (pe_lst pa_nil) (nomark _)) (pw_or1 (pt_cmpR op_ne (pe_ix ix_tup (pe_ix ix_list (pv 4) (pe_un un_neg pe_int) (fun _ _ => rfl)) pe_int (fun _ _ => rfl)) (pv 6) (nomark _))))) (pss_one (ps_expr (pe_bm PySem.F.plainAttrs_list PySem.F.slot_list_append PySem.F.type_list_append mt_append (pv 4) (pa_cons (pe_tup (pa_cons (pv 6) (pa_cons (pe_op op_add pe_int (pe_callH G_law_draw (hr.mono (by omega)) (by rfl) (pa_cons (pv 0) (pa_cons (pv 3) pa_nil)))) pa_nil))) pa_nil)))) pss_nil))))
    (pss_one (ps_ret (pv 4))))), ?_⟩
    refine ⟨Nat.zero_le _, fun L nL => ?_⟩
    have nLp := z.ne nL
    have sL := same_upd (o := .lst []) nL
    refine ⟨_, rfl, _, rfl, _, _, rfl, rfl, p, _, rfl, z.same sL, (by show 1 ≤ m + 1; omega), (wide8 (by show 0 ≤ m + 1; omega) (by show m + 1 ≤ _; omega)), fun H1 r b1 z1 r0 r1 => ?_⟩
    have r1 : r < m + 1 := r1
    refine ⟨r, rfl, by omega, by omega, for_range (lo := 0) (n := r.toNat) (fun i σ H' => ∃ y5 y6 rs, σ = [some (.ref p), some (.ref l), some (.int m), some (.int g), some (.ref L), y5, y6] ∧ RB p H H' ∧ Reel H' p ∧ Off H' p L ∧ H' l = some (.lst (ks.map V.str)) ∧ Runs H' L rs ∧ rs.length ≤ i ∧ (∀ r ∈ rs, RunOk r ∧ r.2 ≤ g) ∧ Alt rs)
      ⟨none, none, [], rfl, (RB.of sL).trans b1, z1, b1.off _ _ upd_same ((z.off nL).upd nLp), b1.strs (z.same sL) (sL _ _ hl), ⟨[], b1.but _ _ nLp upd_same, .nil⟩, Nat.zero_le _, (fun r h => by cases h), (fun i x y h => by simp at h)⟩ (fun i σ H6 hi hP => ?_) (fun σ H6 hP => ?_)⟩
    · obtain ⟨y5, y6, rs, rfl, b6, z6, o6, hl6, hR, lr, okr, alt⟩ := hP
      refine ⟨_, rfl, _, rfl, _, rfl, l, _, rfl, .inl (.of hl6), p, _, rfl, z6, ?_, ?_, fun H7 r7 b7 z7 r70 r71 => ?_⟩
      · rw [List.length_map]
        omega
      · rw [List.length_map]
        exact wide8 (by omega) (by omega)
      rw [List.length_map] at r71
      have lt : r7.toNat < ks.length := by omega
      have hl7 := b7.strs z6 hl6
      have ek : (ks.map V.str)[r7.toNat]? = some (.str ks[r7.toNat]) := by
        rw [List.getElem?_map, List.getElem?_eq_getElem lt]
        rfl
      have kk : KindOk ks[r7.toNat] := okk _ (List.getElem_mem lt)
      generalize ks[r7.toNat] = kd at ek kk
      refine ⟨l, _, r7, _, rfl, rfl, .of hl7, atI_ofR r70 ek, ?_⟩
      have hR8 : Runs H7 L rs := b7.runs z6 hR
      have B8 := b6.trans b7
      have o8 : Off H7 p L := by
        obtain ⟨xs, hx, _⟩ := hR
        exact b7.off _ _ hx o6
      have okR : ∀ r ∈ rs, KindOk r.1 := fun r h => (okr r h).1.1
      clear b7 hR hl6 b6 z6 o6
      obtain ⟨xs, hx, hpr⟩ := hR8
      have lx : xs.length = rs.length := Paired.len hpr
      dsimp only
      refine if_by (fun b H9 => Same H7 H9 ∧ (b = true → ∀ y, rs[rs.length - 1]? = some y → y.1 ≠ kd)) (fun Q' k => ?_) (fun H9 hq => ?_) (fun H9 hq => ?_)
      · refine ⟨_, rfl, Nat.zero_le _, fun e ne => ?_⟩
        have se : Same H7 (upd H7 e (.lst [])) := same_upd ne
        refine ⟨.list (rs.map dRun), .list [], .lst (.of (se _ _ hx)) (dp_all (prs_same se hpr)), .lst (.of upd_same) .nil, shaped_runs okR, shaped_nil, _, rfl, ?_⟩
        rw [eqv_nil]
        cases hrs : rs with
        | nil => exact iteP rfl (k _ _ ⟨se, fun _ y hy => by rw [hrs] at hy; cases hy⟩)
        | cons r0 t0 =>
          refine iteN rfl ?_
          have hne : rs ≠ [] := by rw [hrs]; intro z; cases z
          have hlt : rs.length - 1 < rs.length := by
            have : 0 < rs.length := by rw [hrs]; exact Nat.succ_pos _
            omega
          obtain ⟨x, ex, hxv⟩ := Paired.at' hpr (List.getElem?_eq_getElem hlt)
          obtain ⟨tt, rfl, htt⟩ := RunV.same se hxv
          have exl : atI xs (-1) = some (.ref tt) := by
            have h1 : xs ≠ [] := fun z => by rw [z] at lx; rw [hrs] at lx; cases lx
            have h2 : xs = xs.dropLast ++ [xs.getLast h1] := (List.dropLast_concat_getLast h1).symm
            have h3 : xs.getLast h1 = .ref tt := by
              have := List.getLast?_eq_getElem? (l := xs)
              rw [lx, ex, List.getLast?_eq_some_getLast h1] at this
              exact Option.some.inj this
            rw [h2, h3]
            exact atI_last _ _
          refine ⟨_, rfl, 1, rfl, L, xs, -1, _, rfl, rfl, .of (se _ _ hx), exl, tt, _, 0, _, rfl, rfl, .of htt, at0, _, rfl, rfl, _, rfl, ?_⟩
          refine k _ _ ⟨se, fun hb y hy => ?_⟩
          rw [List.getElem?_eq_getElem hlt] at hy
          cases hy
          intro z
          rw [z] at hb
          simp at hb
      · obtain ⟨s9, ha⟩ := hq
        refine ⟨_, rfl, .inl ⟨rfl, _, SqL.of (s9 _ _ hx)⟩, _, rfl, _, rfl, _, rfl, p, g, rfl, z7.same s9, g1, wide8 (by omega) (by omega), fun H10 r10 b10 z10 r100 r101 => ⟨_, _, rfl, rfl, (by show 2 ≤ sizeLine; decide), fun n nn => ?_⟩⟩
        have hx10 := b10.but _ _ nLp (s9 _ _ hx)
        have hp10 : Paired (RunV H10) xs rs := Paired.imp (fun _ _ h => b10.run (z7.same s9) (h.same s9)) hpr
        have o10 := b10.off _ _ (s9 _ _ hx) (o8.same s9)
        have sn := same_upd (o := .tup [.str kd, .int (1 + r10)]) nn
        refine ⟨L, _, _, rfl, rfl, sn _ _ hx10, small (by omega), ?_⟩
        refine ⟨_, _, rs ++ [(kd, 1 + r10)], rfl, ((((B8.trans (RB.of s9)).trans b10).trans (RB.of sn)).grow nL (o10.same sn)), (z10.same sn).upd (o10.same sn), (o10.same sn).upd nLp, ?_, ⟨_, upd_same, Paired.app (prs_grow (sn _ _ hx10) (prs_same sn hp10)) (.cons (RunV.grow (sn _ _ hx10) ⟨n, rfl, upd_same⟩) .nil)⟩, ?_, ?_, altR_snoc alt (ha rfl)⟩
        · have nl : l ≠ L := ne_of_none hl nL
          rw [upd_ne nl]
          exact sn _ _ (b10.strs (z7.same s9) (s9 _ _ hl7))
        · rw [List.length_append]
          show rs.length + 1 ≤ i + 1
          omega
        · intro r hr
          rcases List.mem_append.mp hr with h | h
          · exact okr r h
          · rw [List.mem_singleton.mp h]
            exact ⟨⟨kk, by show 1 ≤ 1 + r10; omega, by show 1 + r10 ≤ _; omega⟩, by show 1 + r10 ≤ g; omega⟩
      · obtain ⟨s9, ha⟩ := hq
        exact ⟨_, _, rs, rfl, B8.trans (RB.of s9), z7.same s9, o8.same s9, s9 _ _ hl7, ⟨xs, s9 _ _ hx, prs_same s9 hpr⟩, by omega, okr, alt⟩
    · obtain ⟨y5, y6, rs, rfl, b6, z6, o6, hl6, hR, lr, okr, alt⟩ := hP
      exact ⟨_, rfl, q H6 L rs b6 z6 o6 nL hR ⟨by omega, fun r h => (okr r h).1, alt⟩ (by omega) (fun r h => (okr r h).2)⟩
/-! _law_end: slots 0:runs 1:state 2:kind 3:count -/
abbrev s_law_end : Stmt := topS 36
theorem sc_law_end : FnScope ["runs", "state", "kind", "count"] ["runs", "state"] (defScope s_law_end) := ⟨rfl, rfl, rfl, by decide +kernel, rfl, by decide +kernel, by decide +kernel⟩
def sp_law_end : Sp := fun vs H Q _ => ∃ (a : Addr) (rs : List Run) (v : V) (st : Option Run), vs = [.ref a, v] ∧ Runs H a rs ∧ (∀ r ∈ rs, 1 ≤ r.2) ∧ StV H v st ∧ ∀ H' v', Same H H' → StV H' v' (stR rs st) → Q v' H'
theorem ok_law_end (D : Df K mg "_law_end" s_law_end) (G_law_step : Has P w K mg base 1 "_law_step" ["state", "kind", "count"] sp_law_step) : Has P w K mg base 2 "_law_end" ["runs", "state"] sp_law_end := by
  refine has_of D sc_law_end (fun _ _ _ _ _ _ us hl => match us, hl with | [_, _], _ => rfl) (fun vs H Q E h => ?_) (fun f cdv A outer s₀ H vs Q E hr h => ?_)
  · obtain ⟨_, _, _, _, rfl, _⟩ := h
    rfl
  · obtain ⟨a, rs, v, st, rfl, ⟨xs, hx, hpr⟩, pos, hv, q⟩ := h
    have lx : xs.length = rs.length := Paired.len hpr
    refine ⟨_, (pss_cons (ps_for PassesOwn.never rfl (pi_list (pv 0)) (pg_tup rfl (pgs_cons (pg_name (i := 2) sc_law_end.nd rfl (by first | exact Or.inl rfl | exact Or.inr rfl)) (pgs_cons (pg_name (i := 3) sc_law_end.nd rfl (by first | exact Or.inl rfl | exact Or.inr rfl)) pgs_nil)))
      (pss_one (ps_set (i := 1) sc_law_end.nd rfl (by first | exact Or.inl rfl | exact Or.inr rfl) (pe_callH G_law_step (hr.mono (by omega)) (by rfl) (pa_cons (pv 1) (pa_cons (pv 2) (pa_cons (pv 3) pa_nil)))))))
    (pss_one (ps_ret (pv 1)))), ?_⟩
    refine ⟨_, rfl, a, rfl, ⟨xs, .of hx⟩, for_list (K := K) (a := a) (xs := xs) (fun i σ H' => ∃ u y2 y3, σ = [some (.ref a), some u, y2, y3] ∧ Same H H' ∧ StV H' u (stR (rs.take i) st))
      ⟨v, none, none, rfl, Same.refl _, hv⟩ (fun i σ H' _ hP => ?_) (fun i x σ H4 ex hP => ?_) (fun σ H4 hP => ?_)⟩
    · obtain ⟨_, _, _, _, sm, _⟩ := hP
      exact .of (sm _ _ hx)
    · obtain ⟨u, y2, y3, rfl, sm, hu⟩ := hP
      obtain ⟨r, er, hr1⟩ := Paired.at hpr ex
      obtain ⟨t, rfl, ht⟩ := RunV.same sm hr1
      have c1 := pos r (List.mem_of_getElem? er)
      refine ⟨t, _, rfl, .of ht, rfl, _, _, rfl, _, _, rfl, rfl, ?_⟩
      refine ⟨_, rfl, _, rfl, _, rfl, u, _, r.1, r.2, rfl, hu, c1, fun H5 w1 s5 hw1 => ⟨w1, _, _, rfl, sm.trans s5, ?_⟩⟩
      rw [take_snoc er, stR_snoc]
      exact hw1
    · obtain ⟨u, y2, y3, rfl, sm, hu⟩ := hP
      rw [lx, List.take_length] at hu
      exact ⟨_, rfl, q _ _ sm hu⟩
end
end UP

set_option Elab.async false
set_option linter.all false
set_option maxRecDepth 100000
set_option maxHeartbeats 4000000
namespace UP
open PySem PySem.Spec PyProof.Rows L2
theorem stOk_stepC {a : Option Run} {k : Str} {c : Int} (h : StOk a) (kk : KindOk k) (c1 : 1 ≤ c) : StOk (stepR a k c) := by
  intro r e
  have p := stepR_pos (k := k) (c := c) (fun r e => (h r e).2) c1 r e
  refine ⟨?_, p⟩
  cases a with
  | none =>
    cases e
    exact kk
  | some s =>
    have hs := h s rfl
    rcases step_cases (r := s) (k := k) (c := c) with ⟨_, es⟩ | ⟨_, _, es⟩ | ⟨_, _, es⟩ | ⟨_, _, es⟩
    · rw [es] at e
      cases e
      exact kk
    · rw [es] at e
      cases e
      exact hs.1
    · rw [es] at e
      cases e
    · rw [es] at e
      cases e
      exact kk
theorem MW.pos {a b : Option Run} {k : Str} {c : Int} (pa : PosO a) (pb : PosO b) (ne : a ≠ b) (h : MW a b k c) : ∃ r, a = some r ∧ r.1 ≠ k ∧ r.2 ≤ c ∧ 1 ≤ r.2 := by
  cases a with
  | none =>
    cases b with
    | none => exact absurd rfl ne
    | some s =>
      have := pb s rfl
      have := mw_ns.mp h
      omega
  | some r =>
    refine ⟨r, rfl, fun z => h.1 (by show V.str r.1 = V.str k; rw [z]), ?_, pa r rfl⟩
    have h1 : r.2 = numR b := h.2.2.1
    have h2 := h.2.2.2
    omega
section
variable {P : Program} {w : World} {K : PySem.W.Frag} {mg : Str → Option Value} {base : Heap}
end
end UP

set_option Elab.async false
set_option linter.all false
set_option maxRecDepth 100000
set_option maxHeartbeats 4000000
namespace UP
open PySem PySem.Spec PyProof.Rows L2
section
variable {X : Cx} {K : PySem.W.Frag}
theorem op_notIn_seqK (h : X.K = K) : OpR X (compareOp .NotIn) (rIn K true) := h ▸ op_notIn_seq
theorem op_in_seqK (h : X.K = K) : OpR X (compareOp .In) (rIn K false) := h ▸ op_in_seq
end
/-! ### lists of kinds -/
def KsOk (ks : List Str) : Prop := 0 < ks.length ∧ ks.length ≤ 12 ∧ (∀ k ∈ ks, KindOk k) ∧ ∀ (i : Nat) (x y : Str), ks[i]? = some x → ks[i + 1]? = some y → x.cps.toList < y.cps.toList
theorem strR_of {x y : Str} (h : x.cps.toList = y.cps.toList) : x = y := by
  cases x with
  | mk a =>
    cases y with
    | mk b =>
      congr 1
      exact Array.ext' h
theorem rising_next : ∀ (l : List Str) (p : Str), risingS p l = true → ∀ (i : Nat) (x y : Str), (p :: l)[i]? = some x → (p :: l)[i + 1]? = some y → ltCps y.cps.toList x.cps.toList = false
  | [], p, _, i, x, y, _, h2 => by simp at h2
  | z :: t, p, h, 0, x, y, h1, h2 => by
    cases h1
    cases h2
    have h : (!ltCps z.cps.toList p.cps.toList && risingS z t) = true := h
    rw [Bool.and_eq_true] at h
    have := h.1
    cases e : ltCps z.cps.toList p.cps.toList with
    | false => rfl
    | true => rw [e] at this; cases this
  | z :: t, p, h, i + 1, x, y, h1, h2 => by
    have h : (!ltCps z.cps.toList p.cps.toList && risingS z t) = true := h
    rw [Bool.and_eq_true] at h
    exact rising_next t z h.2 i x y h1 h2
theorem ks_of {ks : List Str} (l0 : 0 < ks.length) (l1 : ks.length ≤ 12) (ok : ∀ k ∈ ks, KindOk k) (nd : ks.Nodup ∧ sortedS ks = true) : KsOk ks := by
  refine ⟨l0, l1, ok, fun i x y hx hy => ?_⟩
  cases ks with
  | nil => cases hx
  | cons p t =>
    have h := rising_next t p nd.2 i x y hx hy
    rw [ltCps_eq] at h
    have h := of_decide_eq_false h
    by_cases c : x.cps.toList < y.cps.toList
    · exact c
    · exfalso
      have e : x = y := strR_of (List.le_antisymm h c)
      obtain ⟨h1, e1⟩ := List.getElem?_eq_some_iff.mp hx
      obtain ⟨h2, e2⟩ := List.getElem?_eq_some_iff.mp hy
      have i1 := List.Nodup.idxOf_getElem nd.1 i h1
      have i2 := List.Nodup.idxOf_getElem nd.1 (i + 1) h2
      rw [e1, e] at i1
      rw [e2] at i2
      omega
/-! ### who can meet -/
def TwoK (ks : List Str) (a : Option Run) : Prop := ∃ k1 ∈ ks, ∃ k2 ∈ ks, k1 ≠ k2 ∧ kdV a ≠ .str k1 ∧ kdV a ≠ .str k2
def CanM (ks : List Str) (a b : Option Run) : Prop := (numR a - numR b) % 2 = 0 ∧ ((numR a = numR b ∧ ∃ k ∈ ks, kdV a ≠ .str k ∧ kdV b ≠ .str k) ∨ (numR b < numR a ∧ TwoK ks a) ∨ (numR a < numR b ∧ TwoK ks b))
def mxR (a b : Option Run) : Int := if numR a < numR b then numR b else numR a
def MeetOk (ks : List Str) (a b : Option Run) (rs : List Run) : Prop := (∀ r ∈ rs, r.1 ∈ ks ∧ 1 ≤ r.2) ∧ Alt rs ∧ rs.length ≤ 2 ∧ lenR rs = mxR a b ∧ stR rs a = none ∧ stR rs b = none ∧ mmR rs a b = some (mxR a b)
theorem mx_comm (a b : Option Run) : mxR a b = mxR b a := by
  unfold mxR
  split <;> split <;> omega
theorem can_comm {ks : List Str} {a b : Option Run} (h : CanM ks a b) : CanM ks b a := by
  refine ⟨by have := h.1; omega, ?_⟩
  rcases h.2 with ⟨e, k, hk, h1, h2⟩ | h | h
  · exact .inl ⟨e.symm, k, hk, h2, h1⟩
  · exact .inr (.inr h)
  · exact .inr (.inl h)
theorem meet_comm {ks : List Str} {a b : Option Run} {rs : List Run} (h : MeetOk ks a b rs) : MeetOk ks b a rs := by
  obtain ⟨h1, h2, h3, h4, h5, h6, h7⟩ := h
  exact ⟨h1, h2, h3, h4.trans (mx_comm a b), h6, h5, by rw [mm_comm, h7, mx_comm]⟩
theorem alt_one (r : Run) : Alt [r] := fun i x y h1 h2 => by
  cases i with
  | zero => simp at h2
  | succ i => simp at h2
theorem alt_two {r s : Run} (h : r.1 ≠ s.1) : Alt [r, s] := fun i x y h1 h2 => by
  cases i with
  | zero =>
    cases h1
    cases h2
    exact h
  | succ i =>
    cases i with
    | zero => simp at h2
    | succ i => simp at h2
theorem meet_one {ks : List Str} {a b : Option Run} {k : Str} (pa : PosO a) (pb : PosO b) (ne : a ≠ b) (e : numR a = numR b) (hk : k ∈ ks) (h1 : kdV a ≠ .str k) (h2 : kdV b ≠ .str k) : MeetOk ks a b [(k, numR a)] := by
  have w : MW a b k (numR a) := ⟨h1, h2, e, by omega⟩
  obtain ⟨r, er, rk, _, r1⟩ := w.pos pa pb ne
  obtain ⟨s, es, sk, _, s1⟩ := (MW.comm.mp w).pos pb pa (fun z => ne z.symm)
  subst er
  subst es
  have e : r.2 = s.2 := e
  have sa : stepR (some r) k r.2 = none := by
    rcases step_cases (r := r) (k := k) (c := r.2) with ⟨f, _⟩ | ⟨_, f, _⟩ | ⟨_, _, f⟩ | ⟨_, f, _⟩
    · exact absurd f rk
    · omega
    · exact f
    · omega
  have sb : stepR (some s) k r.2 = none := by
    rcases step_cases (r := s) (k := k) (c := r.2) with ⟨f, _⟩ | ⟨_, f, _⟩ | ⟨_, _, f⟩ | ⟨_, f, _⟩
    · exact absurd f sk
    · omega
    · exact f
    · omega
  have mx : mxR (some r) (some s) = r.2 := by
    unfold mxR
    show (if r.2 < s.2 then s.2 else r.2) = r.2
    split <;> omega
  refine ⟨fun x hx => ?_, alt_one _, by show 1 ≤ 2; decide, ?_, sa, sb, ?_⟩
  · rw [List.mem_singleton.mp hx]
    exact ⟨hk, r1⟩
  · rw [lenR_cons, lenR_nil, mx]
    show r.2 + 0 = r.2
    omega
  · rw [mx]
    unfold mmR
    rw [if_neg ne]
    show (if MW (some r) (some s) k r.2 then some (0 + r.2) else _) = _
    rw [if_pos (show MW (some r) (some s) k r.2 from w), Int.zero_add]
theorem meet_two {ks : List Str} {a b : Option Run} {f g : Str} (pa : PosO a) (pb : PosO b) (lt : numR b < numR a) (ev : (numR a - numR b) % 2 = 0) (hf : f ∈ ks) (hg : g ∈ ks) (h1 : kdV a ≠ .str f) (h2 : kdV b ≠ .str f) (h3 : kdV a ≠ .str g) (fg : f ≠ g) :
    MeetOk ks a b [(f, numR b + (numR a - numR b) / 2), (g, (numR a - numR b) / 2)] := by
  have b0 := num_nn pb
  obtain ⟨h, eh⟩ : ∃ h, (numR a - numR b) / 2 = h := ⟨_, rfl⟩
  have hh : numR a - numR b = 2 * h := by omega
  rw [eh]
  have ne : a ≠ b := fun z => by rw [z] at lt; omega
  cases a with
  | none =>
    have lt : numR b < 0 := lt
    omega
  | some r =>
    have rf : r.1 ≠ f := fun z => h1 (by show V.str r.1 = V.str f; rw [z])
    have rg : r.1 ≠ g := fun z => h3 (by show V.str r.1 = V.str g; rw [z])
    have hr : r.2 - numR b = 2 * h := hh
    have h0 : 1 ≤ h := by
      have lt : numR b < r.2 := lt
      omega
    have sa : stepR (some r) f (numR b + h) = some (r.1, h) := by
      rcases step_cases (r := r) (k := f) (c := numR b + h) with ⟨x, _⟩ | ⟨_, _, x⟩ | ⟨_, x, _⟩ | ⟨_, x, _⟩
      · exact absurd x rf
      · rw [x, show r.2 - (numR b + h) = h by omega]
      · omega
      · omega
    have sb : stepR b f (numR b + h) = some (f, h) := by
      cases b with
      | none =>
        show some (f, 0 + h) = some (f, h)
        rw [Int.zero_add]
      | some s =>
        have sf : s.1 ≠ f := fun z => h2 (by show V.str s.1 = V.str f; rw [z])
        have : numR (some s) = s.2 := rfl
        rcases step_cases (r := s) (k := f) (c := numR (some s) + h) with ⟨x, _⟩ | ⟨_, x, _⟩ | ⟨_, x, _⟩ | ⟨_, _, x⟩
        · exact absurd x sf
        · omega
        · omega
        · rw [x, show numR (some s) + h - s.2 = h by omega]
    have ta : stepR (some (r.1, h)) g h = none := by
      rcases step_cases (r := (r.1, h)) (k := g) (c := h) with ⟨x, _⟩ | ⟨_, x, _⟩ | ⟨_, _, x⟩ | ⟨_, x, _⟩
      · exact absurd x rg
      · have x : h < h := x; omega
      · exact x
      · have x : h < h := x; omega
    have tb : stepR (some (f, h)) g h = none := by
      rcases step_cases (r := (f, h)) (k := g) (c := h) with ⟨x, _⟩ | ⟨_, x, _⟩ | ⟨_, _, x⟩ | ⟨_, x, _⟩
      · exact absurd x fg
      · have x : h < h := x; omega
      · exact x
      · have x : h < h := x; omega
    have mx : mxR (some r) b = r.2 := by
      unfold mxR
      rw [if_neg (by omega)]
      rfl
    refine ⟨fun x hx => ?_, alt_two fg, Nat.le_refl _, ?_, ?_, ?_, ?_⟩
    · rcases List.mem_cons.mp hx with e | e
      · rw [e]
        exact ⟨hf, by show 1 ≤ numR b + h; omega⟩
      · rw [List.mem_singleton.mp e]
        exact ⟨hg, h0⟩
    · rw [lenR_cons, lenR_cons, lenR_nil, mx]
      show numR b + h + (h + 0) = r.2
      omega
    · rw [stR_cons, stR_cons]
      show stR [] (stepR (stepR (some r) f (numR b + h)) g h) = none
      rw [sa, ta]
      rfl
    · rw [stR_cons, stR_cons]
      show stR [] (stepR (stepR b f (numR b + h)) g h) = none
      rw [sb, tb]
      rfl
    · rw [mx]
      unfold mmR
      rw [if_neg ne]
      show (if MW (some r) b f (numR b + h) then _ else mgR [(g, h)] (stepR (some r) f (numR b + h)) (stepR b f (numR b + h)) (0 + (numR b + h))) = _
      rw [if_neg (fun z : MW (some r) b f (numR b + h) => by have z : r.2 = numR b := z.2.2.1; omega), sa, sb]
      show (if MW (some (r.1, h)) (some (f, h)) g h then some (0 + (numR b + h) + h) else _) = _
      rw [if_pos (show MW (some (r.1, h)) (some (f, h)) g h from mw_ss.mpr ⟨rg, fg, rfl, Int.le_refl _⟩), show 0 + (numR b + h) + h = r.2 by omega]
def fk (x y : V) (k : Str) : Bool := !inV (.str k) [x, y]
theorem eqV_kd (a : Option Run) (k : Str) : eqV (kdV a) (.str k) = decide (kdV a = .str k) := by
  cases a with
  | none =>
    show false = _
    rw [decide_eq_false (by intro z; cases z)]
  | some r =>
    show (r.1 == k) = decide (V.str r.1 = V.str k)
    rw [Bool.eq_iff_iff]
    simp
theorem fk_iff {a b : Option Run} {k : Str} : fk (kdV a) (kdV b) k = true ↔ kdV a ≠ .str k ∧ kdV b ≠ .str k := by
  unfold fk inV
  simp only [List.any_cons, List.any_nil, Bool.or_false, eqV_kd]
  by_cases h1 : kdV a = .str k
  · simp [h1]
  · by_cases h2 : kdV b = .str k
    · simp [h1, h2]
    · simp [h1, h2]
theorem fk_str {a : Option Run} {f k : Str} : fk (kdV a) (.str f) k = true ↔ kdV a ≠ .str k ∧ f ≠ k := by
  have := fk_iff (a := a) (b := some (f, 1)) (k := k)
  rw [show kdV (some (f, (1 : Int))) = .str f from rfl] at this
  rw [this]
  exact ⟨fun h => ⟨h.1, fun z => h.2 (by rw [z])⟩, fun h => ⟨h.1, fun z => h.2 (V.str.inj z)⟩⟩
theorem flat_kd (a : Option Run) : flatV (kdV a) = true := by
  cases a <;> rfl
theorem dp_strl {K : PySem.W.Frag} {H : Hp} : ∀ (l : List Str), DpAll K H (l.map V.str) (l.map PyData.str)
  | [] => .nil
  | x :: t => .cons (.str x) (dp_strl t)
theorem shaped_strl {l : List Str} (h : ∀ s ∈ l, KindOk s) : SeqAt.shaped (.list (l.map PyData.str)) = true := by
  have c : ∀ {l : List Str}, (∀ s ∈ l, KindOk s) → PyData.canLayAll0 (l.map PyData.str) = true ∧ PyData.depthAll (l.map PyData.str) ≤ 1 := by
    intro l h
    induction l with
    | nil => exact ⟨by simp [PyData.canLayAll0], by simp [PyData.depthAll]⟩
    | cons x t ih =>
      obtain ⟨h1, h2⟩ := ih fun s hs => h s (List.mem_cons_of_mem _ hs)
      refine ⟨?_, ?_⟩
      · rw [List.map_cons, PyData.canLayAll0, h1]
        simp [PyData.canLay0, (h x (List.mem_cons_self ..)).str]
      · rw [List.map_cons, PyData.depthAll]
        exact Nat.max_le.mpr ⟨by simp [PyData.depth], h2⟩
  obtain ⟨h1, h2⟩ := c h
  unfold SeqAt.shaped
  rw [PyData.canLay0, h1, PyData.depth]
  exact decide_eq_true (by omega)
theorem eqv_nilS (l : List Str) : PyData.eqv (.list (l.map PyData.str)) (.list []) = l.isEmpty := by
  cases l with
  | nil => simp [PyData.eqv, PyData.eqvAll]
  | cons r t => simp [PyData.eqv, PyData.eqvAll]
theorem filter_snoc {p : Str → Bool} {l : List Str} {i : Nat} {x : Str} (h : l[i]? = some x) : (l.take (i + 1)).filter p = (l.take i).filter p ++ if p x = true then [x] else [] := by
  rw [take_snoc h, List.filter_append]
  congr 1
  cases e : p x <;> simp [e]
theorem str_at {ks : List Str} {i : Nat} {x : V} (h : (ks.map V.str)[i]? = some x) : ∃ k, ks[i]? = some k ∧ x = .str k := by
  rw [List.getElem?_map] at h
  cases e : ks[i]? with
  | none =>
    rw [e] at h
    cases h
  | some n =>
    rw [e] at h
    exact ⟨n, rfl, (Option.some.inj h).symm⟩
section
variable {P : Program} {w : World} {K : PySem.W.Frag} {mg : Str → Option Value} {base : Heap}
/-! is_kinds: slots 0:value 1:kind 2:following -/
abbrev s_is_kinds : Stmt := topS 15
theorem sc_is_kinds : FnScope ["value", "kind", "following"] ["value"] (defScope s_is_kinds) := ⟨rfl, rfl, rfl, by decide +kernel, rfl, by decide +kernel, by decide +kernel⟩
def sp_is_kinds : Sp := fun vs H Q _ => ∃ (a : Addr) (ks : List Str), vs = [.ref a] ∧ Sq2 H a (ks.map V.str) ∧ KsOk ks ∧ ∀ H', Same H H' → Q (.bl true) H'
theorem ok_is_kinds (D : Df K mg "is_kinds" s_is_kinds) (T : Tx mg) (G_is_listed : Has P w K mg base 1 "is_listed" ["value", "most"] sp_is_listed) (G_is_kind : Has P w K mg base 1 "is_kind" ["value"] sp_is_kind) : Has P w K mg base 2 "is_kinds" ["value"] sp_is_kinds := by
  refine has_of D sc_is_kinds (fun _ _ _ _ _ _ us hl => match us, hl with | [_], _ => rfl) (fun vs H Q E h => ?_) (fun f cdv A outer s H vs Q E hr h => ?_)
  · obtain ⟨v, r, rfl, _⟩ := h
    rfl
  · obtain ⟨a, ks, rfl, hx, ⟨l0, l1, okk, asc⟩, q⟩ := h
    refine ⟨_, (pss_cons (ps_if (PW.pt (pw_or (pt_not (pt_val (pe_callH G_is_listed (hr.mono (by omega)) (by rfl) (pa_cons (pv 0) (pa_cons (pe_glI T.c_MAX_KINDS (by rfl)) pa_nil))))) (pw_or (pt_cmpR op_eq (pe_callB call_len_seq (by rfl) T.n_len (by decide +kernel) (pa_cons (pv 0) pa_nil)) pe_int (nomark _)) (pw_or1 (pt_not (pt_val (pe_callB (cr_all rfl) (by rfl) T.n_all (by decide +kernel) (pa_cons (pe_lc (own := [("kind", 1)]) rfl sc_is_kinds.nd (pi_seqV 0) (blkOk_by (N := ["value", "kind", "following"]) (sc := defScope s_is_kinds) (by decide +kernel)) (fun _ _ _ _ _ => (pg_name (i := 1) sc_is_kinds.nd rfl (by first | exact Or.inl rfl | exact Or.inr rfl))) (fun _ _ _ _ _ => pts_nil) (fun _ _ _ _ _ => (pe_callH G_is_kind (hr.mono (by omega)) (by rfl) (pa_cons (pv 1) pa_nil)))) pa_nil)))))))) (pss_one (ps_ret pe_bl)) pss_nil)
    (pss_one (ps_ret (pe_callB (cr_all rfl) (by rfl) T.n_all (by decide +kernel) (pa_cons (pe_lc (own := [("kind", 1), ("following", 2)]) rfl sc_is_kinds.nd (pi_zip1 (i := 0) (RZ.pi_zipA (by rfl) T.n_zip (pa_cons (pv 0) (pa_cons (pe_slice (SlR.or sl_list sl_tupA) (pv 0) (po_some pe_int) po_none) pa_nil))) (fun _ _ _ q => ⟨1, rfl, q⟩) (fun _ _ _ q => q)) (blkOk_by (N := ["value", "kind", "following"]) (sc := defScope s_is_kinds) (by decide +kernel)) (fun _ _ _ _ _ => (pg_tupK (K := K) (n := 2) rfl rfl (pgs_cons (pg_name (i := 1) sc_is_kinds.nd rfl (by first | exact Or.inl rfl | exact Or.inr rfl)) (pgs_cons (pg_name (i := 2) sc_is_kinds.nd rfl (by first | exact Or.inl rfl | exact Or.inr rfl)) pgs_nil)))) (fun _ _ _ _ _ => pts_nil) (fun _ _ _ _ _ => (pe_cmpR op_lt_str (pv 1) (pv 2) (nomark _)))) pa_nil))))), ?_⟩
    refine ⟨_, rfl, a, _, 12, rfl, hx, fun H1 s1 => ⟨_, rfl, iteN ?_ ?_⟩⟩
    · show (!decide (((ks.map V.str).length : Int) ≤ 12)) = false
      rw [List.length_map, decide_eq_true (by omega)]
      rfl
    refine ⟨_, rfl, a, _, rfl, (hx.same s1).elim (fun z => .inl (.of z)) (fun z => .inr (.of z)), rfl, _, rfl, iteN ?_ ?_⟩
    · refine decide_eq_false fun z => ?_
      have z := V.int.inj z
      rw [List.length_map] at z
      omega
    refine ⟨a, _, rfl, hx.same s1, fun J wk L nL => lc_wk wk (fun i H' => Same H1 H' ∧ H' L = some (.lst ((List.replicate i true).map V.bl))) (fun _ _ p => p.1) ⟨same_upd nL, upd_same⟩ (fun i x H2 ex p => ?_) (fun H2 p => ?_)⟩
    · obtain ⟨sm, hL⟩ := p
      obtain ⟨k, ek, rfl⟩ := str_at ex
      have hi : i < ks.length := (List.getElem?_eq_some_iff.mp ek).1
      refine ⟨rfl, yesT ⟨_, rfl, k, rfl, okk k (List.mem_of_getElem? ek), fun H3 s3 => ⟨_, s3 _ _ hL, ?_, same_grow nL (sm.trans s3), ?_⟩⟩⟩
      · simp only [List.length_map, List.length_replicate]
        exact small (by omega)
      · rw [upd_same, List.replicate_succ', List.map_append]
        rfl
    · refine ⟨L, _, rfl, .of p.2, _, rfl, iteN ?_ ?_⟩
      · rw [all_rep]
        rfl
      have s2 : Same H H2 := s1.trans p.1
      refine ⟨a, _, rfl, hx.same s2, fun J Hc sc wk M nM => ?_⟩
      have sA : Same H Hc := s2.trans sc
      refine lc_gen (n := (ks.map V.str).length - 1) (fun i H' => Same Hc H' ∧ H' M = some (.lst ((List.replicate i true).map V.bl))) ⟨same_upd nM, upd_same⟩ (fun i H' hi p => wk.go i H' p.1 (by omega)) (fun H' p => wk.stop H' p.1) (fun i x H3 H4 hi p y => ?_) (fun H' p => ?_)
      · obtain ⟨T', x1, x2, rfl, nT, rfl, g1, g2⟩ := wk.yld i x H3 H4 p.1 y
        obtain ⟨sm, hM⟩ := p
        have g2 := g2 (by omega)
        obtain ⟨k1, e1, rfl⟩ := str_at g1
        obtain ⟨k2, e2, rfl⟩ := str_at g2
        have hi2 : i < ks.length := (List.getElem?_eq_some_iff.mp e1).1
        refine ⟨T', _, rfl, .of upd_same, rfl, _, _, rfl, _, _, rfl, rfl, rfl, yesT ?_⟩
        refine ⟨_, rfl, _, rfl, _, _, rfl, rfl, _, same_upd nT _ _ hM, ?_, same_grow nM (sm.trans (same_upd nT)), ?_⟩
        · simp only [List.length_map, List.length_replicate]
          exact small (by omega)
        · rw [upd_same, List.replicate_succ', List.map_append, decide_eq_true (asc i k1 k2 e1 e2)]
          rfl
      · refine ⟨M, _, rfl, .of p.2, ?_⟩
        rw [all_rep]
        exact q _ (sA.trans p.1)
end
end UP

set_option Elab.async false
set_option linter.all false
set_option maxRecDepth 100000
set_option maxHeartbeats 4000000
namespace UP
open PySem PySem.Spec PyProof.Rows L2
theorem empty_iff {l : List Str} : l.isEmpty = true ↔ l = [] := by
  cases l <;> simp
section
variable {P : Program} {w : World} {K : PySem.W.Frag} {mg : Str → Option Value} {base : Heap}
/-! check_kinds: slots 0:kinds -/
abbrev s_check_kinds : Stmt := topS 19
theorem sc_check_kinds : FnScope ["kinds"] ["kinds"] (defScope s_check_kinds) := ⟨rfl, rfl, rfl, by decide +kernel, rfl, by decide +kernel, by decide +kernel⟩
def sp_check_kinds : Sp := fun vs H Q _ => ∃ (a : Addr) (ks : List Str), vs = [.ref a] ∧ Sq2 H a (ks.map V.str) ∧ KsOk ks ∧ ∀ H', Same H H' → Q .non H'
theorem ok_check_kinds (D : Df K mg "check_kinds" s_check_kinds) (G_is_kinds : Has P w K mg base 2 "is_kinds" ["value"] sp_is_kinds) : Has P w K mg base 3 "check_kinds" ["kinds"] sp_check_kinds := by
  refine has_of D sc_check_kinds (fun _ _ _ _ _ _ us hl => match us, hl with | [_], _ => rfl) (fun vs H Q E h => ?_) (fun f cdv A outer s H vs Q E hr h => ?_)
  · obtain ⟨v, r, rfl, _⟩ := h
    rfl
  · obtain ⟨a, ks, rfl, hx, ok, q⟩ := h
    refine ⟨_, (pss_one (ps_if (pt_not (pt_val (pe_callH G_is_kinds (hr.mono (by omega)) (by rfl) (pa_cons (pv 0) pa_nil)))) (pss_one ps_never) pss_nil)), ?_⟩
    exact ⟨_, rfl, a, ks, rfl, hx, ok, fun H1 s1 => ⟨_, rfl, iteF (q _ s1)⟩⟩
/-! meeting_of: slots 0:kinds 1:one 2:other 3:most 4:least 5:firsts 6:seconds 7:half 8:larger 9:smaller 10:kind -/
abbrev s_meeting_of : Stmt := topS 26
theorem sc_meeting_of : FnScope ["kinds", "one", "other", "most", "least", "firsts", "seconds", "half", "larger", "smaller", "kind"] ["kinds", "one", "other"] (defScope s_meeting_of) := ⟨rfl, rfl, rfl, by decide +kernel, rfl, by decide +kernel, by decide +kernel⟩
def sp_meeting_of : Sp := fun vs H Q _ => ∃ (l : Addr) (ks : List Str) (v u : V) (a b : Option Run), vs = [.ref l, v, u] ∧ Sq2 H l (ks.map V.str) ∧ ks.length ≤ 1000 ∧ (∀ k ∈ ks, KindOk k) ∧ StV H v a ∧ StV H u b ∧ StOk a ∧ StOk b ∧
  (a = b → ∀ H' p, Same H H' → H p = none → Runs H' p [] → Q (.ref p) H') ∧ (a ≠ b → (¬ CanM ks a b → ∀ H', Same H H' → Q .non H') ∧ (CanM ks a b → ∀ H' p rs, Same H H' → H p = none → Runs H' p rs → MeetOk ks a b rs → Q (.ref p) H'))
theorem ok_meeting_of (D : Df K mg "meeting_of" s_meeting_of) (G_waiting_number : Has P w K mg base 1 "waiting_number" ["state"] sp_waiting_number) (G_kind_of : Has P w K mg base 1 "kind_of" ["state"] sp_kind_of) : Has P w K mg base 2 "meeting_of" ["kinds", "one", "other"] sp_meeting_of := by
  refine has_of D sc_meeting_of (fun _ _ _ _ _ _ us hl => match us, hl with | [_, _, _], _ => rfl) (fun vs H Q E h => ?_) (fun f cdv A outer s₀ H vs Q E hr h => ?_)
  · obtain ⟨_, _, _, _, _, _, rfl, _⟩ := h
    rfl
  · obtain ⟨l, ks, v, u, a, b, rfl, hl, lk, okk, hv, hu, ka, kb, q1, q2⟩ := h
    refine ⟨_, (pss_cons (ps_if (pt_cmpR (op_eqD hr.units) (pv 1) (pv 2) (nomark _)) (pss_one (ps_ret (pe_lst pa_nil))) pss_nil)
    (C8.pss_cut (ps_asg (pe_ifExp (pt_cmpR op_gt (pe_callH G_waiting_number (hr.mono (by omega)) (by rfl) (pa_cons (pv 1) pa_nil)) (pe_callH G_waiting_number (hr.mono (by omega)) (by rfl) (pa_cons (pv 2) pa_nil)) (nomark _)) (pe_tup (pa_cons (pv 1) (pa_cons (pv 2) pa_nil))) (pe_tup (pa_cons (pv 2) (pa_cons (pv 1) pa_nil)))) (pg_tup rfl (pgs_cons (pg_name (i := 8) sc_meeting_of.nd rfl (by first | exact Or.inl rfl | exact Or.inr rfl)) (pgs_cons (pg_name (i := 9) sc_meeting_of.nd rfl (by first | exact Or.inl rfl | exact Or.inr rfl)) pgs_nil))))
    (pss_cons (ps_set (i := 3) sc_meeting_of.nd rfl (by first | exact Or.inl rfl | exact Or.inr rfl) (pe_callH G_waiting_number (hr.mono (by omega)) (by rfl) (pa_cons (pv 8) pa_nil)))
    (pss_cons (ps_set (i := 4) sc_meeting_of.nd rfl (by first | exact Or.inl rfl | exact Or.inr rfl) (pe_callH G_waiting_number (hr.mono (by omega)) (by rfl) (pa_cons (pv 9) pa_nil)))
    (pss_cons (ps_set (i := 5) sc_meeting_of.nd rfl (by first | exact Or.inl rfl | exact Or.inr rfl) (pe_lc (own := [("kind", 10)]) rfl sc_meeting_of.nd (pi_seqV 0) (blkOk_by (N := ["kinds", "one", "other", "most", "least", "firsts", "seconds", "half", "larger", "smaller", "kind"]) (sc := defScope s_meeting_of) (by decide +kernel)) (fun _ _ _ _ _ => (pg_name (i := 10) sc_meeting_of.nd rfl (by first | exact Or.inl rfl | exact Or.inr rfl))) (fun _ _ _ _ _ => pts_one (pt_cmpR (op_notIn_seqK (K := K) rfl) (pv 10) (pe_tup (pa_cons (pe_callH G_kind_of (hr.mono (by omega)) (by rfl) (pa_cons (pv 8) pa_nil)) (pa_cons (pe_callH G_kind_of (hr.mono (by omega)) (by rfl) (pa_cons (pv 9) pa_nil)) pa_nil))) (by with_unfolding_all rfl))) (fun _ _ _ _ _ => (pv 10))))
    (pss_cons (ps_if (PW.pt (pw_or (pt_cmpR (op_eqD hr.units) (pv 5) (pe_lst pa_nil) (nomark _)) (pw_or1 (pt_cmpR op_eq (pe_op op_mod (pe_op op_sub (pv 3) (pv 4)) pe_int) pe_int (nomark _))))) (pss_one (ps_ret pe_non)) pss_nil)
    (pss_cons (ps_if (pt_cmpR op_eq (pv 3) (pv 4) (nomark _)) (pss_one (ps_ret (pe_lst (pa_cons (pe_tup (pa_cons (pe_ix ix_list (pv 5) pe_int (fun _ _ => rfl)) (pa_cons (pv 3) pa_nil))) pa_nil)))) pss_nil)
    (pss_cons (ps_setLc (i := 6) (own := [("kind", 10)]) rfl sc_meeting_of.nd rfl rfl (sw_true rfl rfl rfl (by decide +kernel)) (pi_seqV 0) (blkOk_by (N := ["kinds", "one", "other", "most", "least", "firsts", "seconds", "half", "larger", "smaller", "kind"]) (sc := defScope s_meeting_of) (by decide +kernel)) (fun _ _ _ _ _ => (pg_name (i := 10) sc_meeting_of.nd rfl (by first | exact Or.inl rfl | exact Or.inr rfl))) (fun _ _ _ _ _ => pts_one (pt_cmpR (op_notIn_seqK (K := K) rfl) (pv 10) (pe_tup (pa_cons (pe_callH G_kind_of (hr.mono (by omega)) (by rfl) (pa_cons (pv 8) pa_nil)) (pa_cons (pe_ix (ix_listK (K := K) rfl) (pv 5) pe_int (fun _ _ => rfl)) pa_nil))) (by with_unfolding_all rfl))) (fun _ _ _ _ _ => (pv 10)))
    (pss_cons (ps_if (pt_cmpR (op_eqD hr.units) (pv 6) (pe_lst pa_nil) (nomark _)) (pss_one (ps_ret pe_non)) pss_nil)
    (pss_cons (ps_set (i := 7) sc_meeting_of.nd rfl (by first | exact Or.inl rfl | exact Or.inr rfl) (pe_op op_fdivW (pe_op op_sub (pv 3) (pv 4)) pe_int))
    (pss_one (ps_ret (pe_lst (pa_cons (pe_tup (pa_cons (pe_ix ix_list (pv 5) pe_int (fun _ _ => rfl)) (pa_cons (pe_op op_add (pv 4) (pv 7)) pa_nil))) (pa_cons (pe_tup (pa_cons (pe_ix ix_list (pv 6) pe_int (fun _ _ => rfl)) (pa_cons (pv 7) pa_nil))) pa_nil))))))))))))))), ?_⟩
    refine ⟨_, rfl, _, rfl, dOt a, dOt b, dp_o hv, dp_o hu, shaped_o ka, shaped_o kb, _, rfl, ?_⟩
    rw [eqv_o]
    by_cases e : a = b
    · exact iteP (decide_eq_true e) ⟨Nat.zero_le _, fun p np => q1 e _ p (same_upd np) np ⟨[], upd_same, .nil⟩⟩
    refine iteN (decide_eq_false e) ?_
    obtain ⟨qN, qY⟩ := q2 e
    -- the larger one
    refine ⟨fun σ' H' => ∃ vL vS aL aS, σ' = [some (.ref l), some v, some u, none, none, none, none, none, some vL, some vS, none] ∧ Same H H' ∧ StV H' vL aL ∧ StV H' vS aS ∧ StOk aL ∧ StOk aS ∧ aL ≠ aS ∧ numR aS ≤ numR aL ∧ (¬ CanM ks aL aS → ∀ H', Same H H' → Q .non H') ∧ (CanM ks aL aS → ∀ H' p rs, Same H H' → H p = none → Runs H' p rs → MeetOk ks aL aS rs → Q (.ref p) H'), ?_, fun σ' H1 hM => ?_⟩
    · refine ⟨_, rfl, v, a, rfl, hv, _, rfl, u, b, rfl, hu, _, _, rfl, rfl, _, rfl, ite2 (fun g => ?_) (fun g => ?_)⟩
      · have g : numR b < numR a := of_decide_eq_true g
        refine ⟨_, rfl, _, rfl, (by show 2 ≤ sizeLine; decide), fun t nt => ⟨t, _, rfl, .of upd_same, rfl, _, _, rfl, _, _, rfl, rfl, ?_⟩⟩
        exact ⟨v, u, a, b, rfl, same_upd nt, hv.same (same_upd nt), hu.same (same_upd nt), ka, kb, e, by omega, qN, qY⟩
      · have g : ¬ numR b < numR a := fun z => g (decide_eq_true z)
        refine ⟨_, rfl, _, rfl, (by show 2 ≤ sizeLine; decide), fun t nt => ⟨t, _, rfl, .of upd_same, rfl, _, _, rfl, _, _, rfl, rfl, ?_⟩⟩
        exact ⟨u, v, b, a, rfl, same_upd nt, hu.same (same_upd nt), hv.same (same_upd nt), kb, ka, (fun z => e z.symm), by omega, (fun z => qN fun y => z (can_comm y)), (fun z H' p rs s n r m => qY (can_comm z) H' p rs s n r (meet_comm m))⟩
    clear qN qY q1 q2
    obtain ⟨vL, vS, aL, aS, rfl, s1, hvL, hvS, kL, kS, ne, le, qN, qY⟩ := hM
    have pL : PosO aL := fun r h => (kL r h).2
    have pS : PosO aS := fun r h => (kS r h).2
    have hl1 := hl.same s1
    refine ⟨_, rfl, vL, aL, rfl, hvL, ?_⟩
    refine ⟨_, rfl, vS, aS, rfl, hvS, ?_⟩
    -- firsts
    refine ⟨l, _, rfl, hl1, fun J wk F nF => lc_wk wk (fun i H' => Same H1 H' ∧ H' F = some (.lst (((ks.take i).filter (fk (kdV aL) (kdV aS))).map V.str))) (fun _ _ p => p.1) ⟨same_upd nF, upd_same⟩ (fun i x H2 ex hP => ?_) (fun H2 hP => ?_)⟩
    · obtain ⟨s2, hF⟩ := hP
      obtain ⟨k, ek, rfl⟩ := str_at ex
      have hi : i < ks.length := (List.getElem?_eq_some_iff.mp ek).1
      refine ⟨rfl, _, rfl, _, rfl, vL, aL, rfl, hvL.same s2, _, rfl, vS, aS, rfl, hvS.same s2, (by show 2 ≤ sizeLine; decide), fun t nt => ⟨t, _, rfl, .inr (.of upd_same), rfl, ?_, _, rfl, ?_⟩⟩
      · simp [flat_kd]
      have st := same_upd (o := .tup [kdV aL, kdV aS]) nt
      rw [filter_snoc ek]
      cases hb : fk (kdV aL) (kdV aS) k with
      | true =>
        refine iteP hb ⟨_, rfl, _, st _ _ hF, ?_, same_grow nF (s2.trans st), ?_⟩
        · have := List.length_filter_le (fk (kdV aL) (kdV aS)) (ks.take i)
          rw [List.length_take] at this
          rw [List.length_map]
          exact small (by omega)
        · rw [upd_same, List.map_append]
          rfl
      | false =>
        refine iteN hb ⟨s2.trans st, ?_⟩
        rw [if_neg (by decide), List.append_nil]
        exact st _ _ hF
    obtain ⟨s2, hF⟩ := hP
    rw [List.length_map, List.take_length] at hF
    have hl2 := hl1.same s2
    have okF : ∀ k ∈ ks.filter (fk (kdV aL) (kdV aS)), KindOk k := fun k hk => okk k (List.mem_filter.mp hk).1
    refine ⟨_, rfl, Nat.zero_le _, fun e1 ne1 => ?_⟩
    have s3 := same_upd (o := .lst []) ne1
    refine ⟨_, .list [], .lst (.of (s3 _ _ hF)) (dp_strl _), .lst (.of upd_same) .nil, shaped_strl okF, shaped_nil, _, rfl, ?_⟩
    rw [eqv_nilS]
    have sA : Same H _ := s1.trans (s2.trans s3)
    cases hfl : ks.filter (fk (kdV aL) (kdV aS)) with
    | nil =>
      refine iteP rfl (iteT (qN (fun c => ?_) _ sA))
      have none : ∀ k ∈ ks, ¬ (kdV aL ≠ .str k ∧ kdV aS ≠ .str k) := fun k hk z => by
        have : k ∈ ks.filter (fk (kdV aL) (kdV aS)) := List.mem_filter.mpr ⟨hk, fk_iff.mpr z⟩
        rw [hfl] at this
        cases this
      rcases c.2 with ⟨_, k, hk, h1, h2⟩ | ⟨_, k1, hk1, k2, hk2, n12, h1, h2⟩ | ⟨g, _⟩
      · exact none k hk ⟨h1, h2⟩
      · by_cases z : kdV aS = .str k1
        · refine none k2 hk2 ⟨h2, fun y => ?_⟩
          rw [z] at y
          exact n12 (V.str.inj y)
        · exact none k1 hk1 ⟨h1, z⟩
      · omega
    | cons f0 rest =>
      refine iteN rfl ?_
      rw [hfl] at hF
      have f0m : f0 ∈ ks.filter (fk (kdV aL) (kdV aS)) := by rw [hfl]; exact List.mem_cons_self ..
      obtain ⟨f0k, f0b⟩ := List.mem_filter.mp f0m
      obtain ⟨f1, f2⟩ := fk_iff.mp f0b
      have hF3 := s3 _ _ hF
      have hl3 := hl2.same s3
      have hvL3 := (hvL.same s2).same s3
      have hs3 : Same H1 _ := s2.trans s3
      generalize upd H2 e1 (.lst []) = H3 at *
      refine ⟨_, rfl, _, rfl, _, _, rfl, rfl, _, _, rfl, rfl, (by show (0 : Int) < 2; decide), rfl, _, rfl, ?_⟩
      by_cases od : (numR aL - numR aS) % 2 = 1
      · refine iteP (decide_eq_true (by show V.int ((numR aL - numR aS) % 2) = V.int 1; rw [od])) (qN (fun c => ?_) _ sA)
        have := c.1
        omega
      refine iteN (decide_eq_false fun z => od (V.int.inj z)) ?_
      have ev : (numR aL - numR aS) % 2 = 0 := by omega
      refine ⟨_, rfl, _, rfl, rfl, _, rfl, ?_⟩
      by_cases eq : numR aL = numR aS
      · refine iteP (decide_eq_true (by show V.int (numR aL) = V.int (numR aS); rw [eq])) ?_
        refine ⟨_, rfl, F, _, 0, _, rfl, rfl, .of hF3, atI_ofR (Int.le_refl _) rfl, _, rfl, (by show 2 ≤ sizeLine; decide), fun t nt => ⟨(by show 1 ≤ sizeLine; decide), fun p np => ?_⟩⟩
        have s4 := (same_upd (o := .tup [.str f0, .int (numR aL)]) nt).trans (same_upd (o := .lst [.ref t]) np)
        refine qY ⟨ev, .inl ⟨eq, f0, f0k, f1, f2⟩⟩ _ p _ (sA.trans s4) (sA.free ((same_upd (o := .tup [.str f0, .int (numR aL)]) nt).free np)) ⟨[.ref t], upd_same, .cons ⟨t, rfl, ?_⟩ .nil⟩ (meet_one pL pS ne eq f0k f1 f2)
        exact same_upd np _ _ upd_same
      refine iteN (decide_eq_false fun z => eq (V.int.inj z)) ?_
      have lt : numR aS < numR aL := by omega
      -- seconds
      refine ⟨l, _, rfl, hl3, fun J wk G nG => lc_wk wk (fun i H' => Same H3 H' ∧ H' G = some (.lst (((ks.take i).filter (fk (kdV aL) (.str f0))).map V.str))) (fun _ _ p => p.1) ⟨same_upd nG, upd_same⟩ (fun i x H4 ex hP => ?_) (fun H4 hP => ?_)⟩
      · obtain ⟨s4, hG⟩ := hP
        obtain ⟨k, ek, rfl⟩ := str_at ex
        have hi : i < ks.length := (List.getElem?_eq_some_iff.mp ek).1
        refine ⟨rfl, _, rfl, _, rfl, vL, aL, rfl, hvL3.same s4, _, rfl, F, _, 0, _, rfl, rfl, .of (s4 _ _ hF3), atI_ofR (Int.le_refl _) rfl, (by show 2 ≤ sizeLine; decide), fun t nt => ⟨t, _, rfl, .inr (.of upd_same), rfl, ?_, _, rfl, ?_⟩⟩
        · show (flatV (kdV aL) && (flatV (V.str f0) && true)) = true
          rw [flat_kd]
          rfl
        have st := same_upd (o := .tup [kdV aL, .str f0]) nt
        rw [filter_snoc ek]
        cases hb : fk (kdV aL) (.str f0) k with
        | true =>
          refine iteP hb ⟨_, rfl, _, st _ _ hG, ?_, same_grow nG (s4.trans st), ?_⟩
          · have := List.length_filter_le (fk (kdV aL) (.str f0)) (ks.take i)
            rw [List.length_take] at this
            rw [List.length_map]
            exact small (by omega)
          · rw [upd_same, List.map_append]
            rfl
        | false =>
          refine iteN hb ⟨s4.trans st, ?_⟩
          rw [if_neg (by decide), List.append_nil]
          exact st _ _ hG
      obtain ⟨s4, hG⟩ := hP
      rw [List.length_map, List.take_length] at hG
      have okG : ∀ k ∈ ks.filter (fk (kdV aL) (.str f0)), KindOk k := fun k hk => okk k (List.mem_filter.mp hk).1
      refine ⟨_, rfl, Nat.zero_le _, fun e2 ne2 => ?_⟩
      have s5 := same_upd (o := .lst []) ne2
      refine ⟨_, .list [], .lst (.of (s5 _ _ hG)) (dp_strl _), .lst (.of upd_same) .nil, shaped_strl okG, shaped_nil, _, rfl, ?_⟩
      rw [eqv_nilS]
      have sB : Same H _ := sA.trans (s4.trans s5)
      cases hgl : ks.filter (fk (kdV aL) (.str f0)) with
      | nil =>
        refine iteP rfl (qN (fun c => ?_) _ sB)
        have none : ∀ k ∈ ks, ¬ (kdV aL ≠ .str k ∧ f0 ≠ k) := fun k hk z => by
          have : k ∈ ks.filter (fk (kdV aL) (.str f0)) := List.mem_filter.mpr ⟨hk, fk_str.mpr z⟩
          rw [hgl] at this
          cases this
        rcases c.2 with ⟨g, _⟩ | ⟨_, k1, hk1, k2, hk2, n12, h1, h2⟩ | ⟨g, _⟩
        · exact eq g
        · by_cases z : f0 = k1
          · exact none k2 hk2 ⟨h2, fun y => n12 (z.symm.trans y)⟩
          · exact none k1 hk1 ⟨h1, z⟩
        · omega
      | cons g0 rest2 =>
        refine iteN rfl ?_
        rw [hgl] at hG
        have g0m : g0 ∈ ks.filter (fk (kdV aL) (.str f0)) := by rw [hgl]; exact List.mem_cons_self ..
        obtain ⟨g0k, g0b⟩ := List.mem_filter.mp g0m
        obtain ⟨g1, g2⟩ := fk_str.mp g0b
        have hF5 := s5 _ _ (s4 _ _ hF3)
        have hG5 := s5 _ _ hG
        generalize upd H4 e2 (.lst []) = H5 at *
        refine ⟨_, rfl, _, rfl, _, _, rfl, rfl, _, _, rfl, rfl, ⟨by decide, by decide⟩, ?_⟩
        refine ⟨_, rfl, F, _, 0, _, rfl, rfl, .of hF5, atI_ofR (Int.le_refl _) rfl, _, rfl, _, rfl, _, _, rfl, rfl, (by show 2 ≤ sizeLine; decide), fun t nt => ?_⟩
        have s6 := same_upd (o := .tup [.str f0, .int (numR aS + (numR aL - numR aS) / 2)]) nt
        refine ⟨_, rfl, G, _, 0, _, rfl, rfl, .of (s6 _ _ hG5), atI_ofR (Int.le_refl _) rfl, _, rfl, (by show 2 ≤ sizeLine; decide), fun t2 nt2 => ⟨(by show 2 ≤ sizeLine; decide), fun p np => ?_⟩⟩
        have s7 := same_upd (o := .tup [.str g0, .int ((numR aL - numR aS) / 2)]) nt2
        have s8 := same_upd (o := .lst [.ref t, .ref t2]) np
        have sC : Same H _ := sB.trans (s6.trans s7)
        refine qY ⟨ev, .inr (.inl ⟨lt, f0, f0k, g0, g0k, g2, f1, g1⟩)⟩ _ p _ (sC.trans s8) (sC.free np) ⟨[.ref t, .ref t2], upd_same, .cons ⟨t, rfl, ?_⟩ (.cons ⟨t2, rfl, ?_⟩ .nil)⟩ (meet_two pL pS lt ev f0k g0k f1 f2 g1 g2)
        · exact s8 _ _ (s7 _ _ upd_same)
        · exact s8 _ _ upd_same
end
end UP

set_option Elab.async false
set_option linter.all false
set_option maxRecDepth 100000
set_option maxHeartbeats 4000000
namespace UP
open PySem PySem.Spec PyProof.Rows L2
theorem canM_dec (ks : List Str) (a b : Option Run) : CanM ks a b ∨ ¬ CanM ks a b := Classical.em _
open Classical in
noncomputable def dueR (ks : List Str) (a b : Option Run) : Option Int := if a = b then some 0 else if CanM ks a b then some (mxR a b) else none
theorem due_comm (ks : List Str) (a b : Option Run) : dueR ks a b = dueR ks b a := by
  unfold dueR
  by_cases e : a = b
  · rw [if_pos e, if_pos e.symm]
  · rw [if_neg e, if_neg (show ¬ b = a from fun z => e z.symm)]
    by_cases c : CanM ks a b
    · rw [if_pos c, if_pos (can_comm c), mx_comm]
    · rw [if_neg c, if_neg fun z => c (can_comm z)]
theorem due_can {ks : List Str} {a b : Option Run} (e : a ≠ b) (c : CanM ks a b) : dueR ks a b = some (mxR a b) := by
  unfold dueR
  rw [if_neg e, if_pos c]
theorem due_not {ks : List Str} {a b : Option Run} (e : a ≠ b) (c : ¬ CanM ks a b) : dueR ks a b = none := by
  unfold dueR
  rw [if_neg e, if_neg c]
theorem due_eq {ks : List Str} {a : Option Run} : dueR ks a a = some 0 := by
  unfold dueR
  rw [if_pos rfl]
theorem dist_par {a b : Option Run} : distR a b % 2 = 1 ↔ (numR a - numR b) % 2 = 1 := by
  unfold distR
  split
  · split <;> omega
  · omega
section
variable {P : Program} {w : World} {K : PySem.W.Frag} {mg : Str → Option Value} {base : Heap}
/-! meeting_length: slots 0:kinds 1:one 2:other 3:runs -/
abbrev s_meeting_length : Stmt := topS 27
theorem sc_meeting_length : FnScope ["kinds", "one", "other", "runs"] ["kinds", "one", "other"] (defScope s_meeting_length) := ⟨rfl, rfl, rfl, by decide +kernel, rfl, by decide +kernel, by decide +kernel⟩
def sp_meeting_length : Sp := fun vs H Q _ => ∃ (l : Addr) (ks : List Str) (v u : V) (a b : Option Run), vs = [.ref l, v, u] ∧ Sq2 H l (ks.map V.str) ∧ KsOk ks ∧ StG H v a ∧ StG H u b ∧ StOk a ∧ StOk b ∧ ∀ H', Same H H' → Q (oV (dueR ks a b)) H'
theorem ok_meeting_length (D : Df K mg "meeting_length" s_meeting_length) (G_check_kinds : Has P w K mg base 3 "check_kinds" ["kinds"] sp_check_kinds) (G_checked_state : Has P w K mg base 3 "checked_state" ["state"] sp_checked_state) (G_meeting_of : Has P w K mg base 2 "meeting_of" ["kinds", "one", "other"] sp_meeting_of)
    (G_length_of : Has P w K mg base 1 "length_of" ["runs"] sp_length_of) : Has P w K mg base 4 "meeting_length" ["kinds", "one", "other"] sp_meeting_length := by
  refine has_of D sc_meeting_length (fun _ _ _ _ _ _ us hl => match us, hl with | [_, _, _], _ => rfl) (fun vs H Q E h => ?_) (fun f cdv A outer s₀ H vs Q E hr h => ?_)
  · obtain ⟨_, _, _, _, _, _, rfl, _⟩ := h
    rfl
  · obtain ⟨l, ks, v, u, a, b, rfl, hl, ok, hv, hu, ka, kb, q⟩ := h
    refine ⟨_, (pss_cons (ps_expr (pe_callH G_check_kinds (hr.mono (by omega)) (by rfl) (pa_cons (pv 0) pa_nil)))
    (pss_cons (ps_set (i := 1) sc_meeting_length.nd rfl (by first | exact Or.inl rfl | exact Or.inr rfl) (pe_callH G_checked_state (hr.mono (by omega)) (by rfl) (pa_cons (pv 1) pa_nil)))
    (pss_cons (ps_set (i := 3) sc_meeting_length.nd rfl (by first | exact Or.inl rfl | exact Or.inr rfl) (pe_callH G_meeting_of (hr.mono (by omega)) (by rfl) (pa_cons (pv 0) (pa_cons (pv 1) (pa_cons (pe_callH G_checked_state (hr.mono (by omega)) (by rfl) (pa_cons (pv 2) pa_nil)) pa_nil)))))
    (pss_one (ps_ret (pe_ifExp (pt_cmpR op_isN (pv 3) pe_non (nomark _)) pe_non (pe_callH G_length_of (hr.mono (by omega)) (by rfl) (pa_cons (pv 3) pa_nil)))))))), ?_⟩
    refine ⟨_, rfl, l, ks, rfl, hl, ok, fun H1 s1 => ?_⟩
    refine ⟨_, rfl, v, a, rfl, hv.same s1, ka, fun H2 v2 s2 h2 => ?_⟩
    refine ⟨_, rfl, _, rfl, _, rfl, u, b, rfl, (hu.same s1).same s2, kb, fun H3 v3 s3 h3 => ?_⟩
    have sA := s1.trans (s2.trans s3)
    refine ⟨l, ks, v2, v3, a, b, rfl, hl.same sA, by have := ok.2.1; omega, ok.2.2.1, h2.same s3, h3, ka, kb, fun e H4 p s4 n4 h4 => ?_, fun e => ⟨fun c H4 s4 => ?_, fun c H4 p rs s4 n4 h4 m4 => ?_⟩⟩
    · have q := q
      rw [e, due_eq] at q
      exact ⟨_, rfl, rfl, _, rfl, iteN rfl ⟨_, rfl, p, [], rfl, h4, Nat.zero_le _, fun H5 s5 => q _ (sA.trans (s4.trans s5))⟩⟩
    · have q := q
      rw [due_not e c] at q
      exact ⟨_, rfl, rfl, _, rfl, iteP rfl (q _ (sA.trans s4))⟩
    · have q := q
      rw [due_can e c, ← m4.2.2.2.1] at q
      exact ⟨_, rfl, rfl, _, rfl, iteN rfl ⟨_, rfl, p, rs, rfl, h4, by have := m4.2.2.1; omega, fun H5 s5 => q _ (sA.trans (s4.trans s5))⟩⟩
/-! shortest_meeting: slots 0:kinds 1:one 2:other 3:runs -/
abbrev s_shortest_meeting : Stmt := topS 28
theorem sc_shortest_meeting : FnScope ["kinds", "one", "other", "runs"] ["kinds", "one", "other"] (defScope s_shortest_meeting) := ⟨rfl, rfl, rfl, by decide +kernel, rfl, by decide +kernel, by decide +kernel⟩
def sp_shortest_meeting : Sp := fun vs H Q _ => ∃ (l : Addr) (ks : List Str) (v u : V) (a b : Option Run), vs = [.ref l, v, u] ∧ Sq2 H l (ks.map V.str) ∧ KsOk ks ∧ StG H v a ∧ StG H u b ∧ StOk a ∧ StOk b ∧ mxR a b ≤ 1000000000000000000000000000000 ∧
  (a = b → ∀ H' p, Same H H' → H p = none → Runs H' p [] → Q (.ref p) H') ∧ (a ≠ b → (¬ CanM ks a b → ∀ H', Same H H' → Q .non H') ∧ (CanM ks a b → ∀ H' p rs, Same H H' → H p = none → Runs H' p rs → MeetOk ks a b rs → Q (.ref p) H'))
theorem ok_shortest_meeting (D : Df K mg "shortest_meeting" s_shortest_meeting) (T : Tx mg) (G_check_kinds : Has P w K mg base 3 "check_kinds" ["kinds"] sp_check_kinds) (G_checked_state : Has P w K mg base 3 "checked_state" ["state"] sp_checked_state) (G_meeting_of : Has P w K mg base 2 "meeting_of" ["kinds", "one", "other"] sp_meeting_of)
    (G_length_of : Has P w K mg base 1 "length_of" ["runs"] sp_length_of) : Has P w K mg base 4 "shortest_meeting" ["kinds", "one", "other"] sp_shortest_meeting := by
  refine has_of D sc_shortest_meeting (fun _ _ _ _ _ _ us hl => match us, hl with | [_, _, _], _ => rfl) (fun vs H Q E h => ?_) (fun f cdv A outer s₀ H vs Q E hr h => ?_)
  · obtain ⟨_, _, _, _, _, _, rfl, _⟩ := h
    rfl
  · obtain ⟨l, ks, v, u, a, b, rfl, hl, ok, hv, hu, ka, kb, mb, q1, q2⟩ := h
    refine ⟨_, (pss_cons (ps_expr (pe_callH G_check_kinds (hr.mono (by omega)) (by rfl) (pa_cons (pv 0) pa_nil)))
    (pss_cons (ps_set (i := 1) sc_shortest_meeting.nd rfl (by first | exact Or.inl rfl | exact Or.inr rfl) (pe_callH G_checked_state (hr.mono (by omega)) (by rfl) (pa_cons (pv 1) pa_nil)))
    (pss_cons (ps_set (i := 3) sc_shortest_meeting.nd rfl (by first | exact Or.inl rfl | exact Or.inr rfl) (pe_callH G_meeting_of (hr.mono (by omega)) (by rfl) (pa_cons (pv 0) (pa_cons (pv 1) (pa_cons (pe_callH G_checked_state (hr.mono (by omega)) (by rfl) (pa_cons (pv 2) pa_nil)) pa_nil)))))
    (pss_cons (ps_if (PW.pt (pw_and (pt_cmpR op_notN (pv 3) pe_non (nomark _)) (pw_and1 (pt_cmpR op_gt (pe_callH G_length_of (hr.mono (by omega)) (by rfl) (pa_cons (pv 3) pa_nil)) (pe_glI T.c_MAX_COUNT (by rfl)) (nomark _))))) (pss_one ps_never) pss_nil)
    (pss_one (ps_ret (pv 3))))))), ?_⟩
    refine ⟨_, rfl, l, ks, rfl, hl, ok, fun H1 s1 => ?_⟩
    refine ⟨_, rfl, v, a, rfl, hv.same s1, ka, fun H2 v2 s2 h2 => ?_⟩
    refine ⟨_, rfl, _, rfl, _, rfl, u, b, rfl, (hu.same s1).same s2, kb, fun H3 v3 s3 h3 => ?_⟩
    have sA := s1.trans (s2.trans s3)
    refine ⟨l, ks, v2, v3, a, b, rfl, hl.same sA, by have := ok.2.1; omega, ok.2.2.1, h2.same s3, h3, ka, kb, fun e H4 p s4 n4 h4 => ?_, fun e => ⟨fun c H4 s4 => ?_, fun c H4 p rs s4 n4 h4 m4 => ?_⟩⟩
    · refine ⟨_, rfl, rfl, _, rfl, iteP rfl ⟨_, rfl, p, [], rfl, h4, Nat.zero_le _, fun H5 s5 => ?_⟩⟩
      refine ⟨_, _, rfl, rfl, _, rfl, iteN (decide_eq_false (by rw [lenR_nil]; decide)) ⟨_, rfl, q1 e _ p (sA.trans (s4.trans s5)) (sA.free n4) (h4.same s5)⟩⟩
    · exact ⟨_, rfl, rfl, _, rfl, iteN rfl (iteF ⟨_, rfl, (q2 e).1 c _ (sA.trans s4)⟩)⟩
    · refine ⟨_, rfl, rfl, _, rfl, iteP rfl ⟨_, rfl, p, rs, rfl, h4, by have := m4.2.2.1; omega, fun H5 s5 => ?_⟩⟩
      refine ⟨_, _, rfl, rfl, _, rfl, iteN (decide_eq_false (by rw [m4.2.2.2.1]; omega)) ⟨_, rfl, (q2 e).2 c _ p rs (sA.trans (s4.trans s5)) (sA.free n4) (h4.same s5) m4⟩⟩
/-! _law_of: slots 0:kind 1:count -/
abbrev s_law_of : Stmt := topS 37
theorem sc_law_of : FnScope ["kind", "count"] ["kind", "count"] (defScope s_law_of) := ⟨rfl, rfl, rfl, by decide +kernel, rfl, by decide +kernel, by decide +kernel⟩
def sp_law_of : Sp := fun vs H Q _ => ∃ (k : Str) (c : Int), vs = [.str k, .int c] ∧ 0 ≤ c ∧ ∀ H' v, Same H H' → StV H' v (withR k c) → Q v H'
theorem ok_law_of (D : Df K mg "_law_of" s_law_of) : Has P w K mg base 1 "_law_of" ["kind", "count"] sp_law_of := by
  refine has_of D sc_law_of (fun _ _ _ _ _ _ us hl => match us, hl with | [_, _], _ => rfl) (fun vs H Q E h => ?_) (fun f cdv A outer s₀ H vs Q E hr h => ?_)
  · obtain ⟨_, _, rfl, _⟩ := h
    rfl
  · obtain ⟨k, c, rfl, c0, q⟩ := h
    refine ⟨_, (pss_one (ps_ret (pe_ifExp (pt_cmpR op_gt (pv 1) pe_int (nomark _)) (pe_tup (pa_cons (pv 0) (pa_cons (pv 1) pa_nil))) pe_non))), ?_⟩
    refine ⟨_, rfl, _, _, rfl, rfl, _, rfl, ite2 (fun e => ?_) (fun e => ?_)⟩
    · have e : 0 < c := of_decide_eq_true e
      refine ⟨_, rfl, _, rfl, (by show 2 ≤ sizeLine; decide), fun t nt => q _ _ (same_upd nt) ?_⟩
      rw [show withR k c = some (k, c) from if_neg (by omega)]
      exact ⟨t, rfl, upd_same⟩
    · have e : ¬ 0 < c := fun z => e (decide_eq_true z)
      refine q _ _ (Same.refl _) ?_
      rw [show withR k c = none from if_pos (by omega)]
      rfl
end
end UP

set_option Elab.async false
set_option linter.all false
set_option maxRecDepth 100000
set_option maxHeartbeats 4000000
/-! sets of texts: set(list), len, sorted -/
namespace UP
open PySem PySem.Spec PyProof.Rows L2
/-- the text of a row -/
def kS (e : Int × Value) : Str := match e.2 with
  | .str k _ => k
  | _ => ""
def RowS (w : World) (e : Int × Value) : Prop := ∃ k tk, e = (PySem.hashStr w k, Value.str k tk)
def addS (xs : List Str) (k : Str) : List Str := if k ∈ xs then xs else k :: xs
theorem addS_mem {xs : List Str} {k x : Str} : x ∈ addS xs k ↔ x ∈ xs ∨ x = k := by
  unfold addS
  split
  · exact ⟨.inl, fun h => h.elim id fun e => e ▸ (by assumption)⟩
  · rw [List.mem_cons]; exact Or.comm
theorem addS_nodup {xs : List Str} {k : Str} (h : xs.Nodup) : (addS xs k).Nodup := by
  unfold addS
  split
  · exact h
  · exact List.nodup_cons.mpr ⟨by assumption, h⟩
theorem addS_len (xs : List Str) (k : Str) : (addS xs k).length ≤ xs.length + 1 := by
  unfold addS
  split
  · omega
  · exact Nat.le_refl _
/-- what set(ns) holds, in some order -/
def setS (ns : List Str) : List Str := ns.foldl addS []
theorem foldS_mem : ∀ (ns xs : List Str) (x : Str), x ∈ ns.foldl addS xs ↔ x ∈ xs ∨ x ∈ ns
  | [], xs, x => by simp
  | n :: t, xs, x => by
    rw [List.foldl_cons, foldS_mem t, addS_mem, List.mem_cons]
    exact or_assoc
theorem foldS_nodup : ∀ (ns xs : List Str), xs.Nodup → (ns.foldl addS xs).Nodup
  | [], _, h => h
  | n :: t, xs, h => foldS_nodup t _ (addS_nodup h)
theorem foldS_len : ∀ (ns xs : List Str), (ns.foldl addS xs).length ≤ xs.length + ns.length
  | [], xs => Nat.le_refl _
  | n :: t, xs => by
    have h1 := foldS_len t (addS xs n)
    have h2 := addS_len xs n
    rw [List.foldl_cons, List.length_cons]
    omega
theorem setS_mem {ns : List Str} {x : Str} : x ∈ setS ns ↔ x ∈ ns := by
  unfold setS
  rw [foldS_mem]
  simp
theorem setS_nodup (ns : List Str) : (setS ns).Nodup := foldS_nodup ns [] List.nodup_nil
theorem setS_len (ns : List Str) : (setS ns).length ≤ ns.length := by
  have := foldS_len ns []
  rw [List.length_nil, Nat.zero_add] at this
  exact this
theorem setS_snoc (ns : List Str) (k : Str) : setS (ns ++ [k]) = addS (setS ns) k := by
  unfold setS
  rw [List.foldl_append]
  rfl
/-- the set of texts at a, its members xs in any order -/
def SetS (w : World) (h : Heap) (a : Addr) (xs : List Str) : Prop :=
  ∃ (o : Obj) (rs : Array (Int × Value)) (ep : Nat) (tb : SetTable), (h.get? a = some o ∧ o.ExactSet ∧ o.data = .set rs ep tb) ∧ (∀ e ∈ rs.toList, RowS w e) ∧ (rs.toList.map kS).Perm xs ∧ xs.Nodup ∧
    (rs.size < scanBound ∧ tb.fits rs.size = true) ∧ Ris tb.place.toList ∧ (w.params.followText "set-order" = true ∨ tb.led = true)
section
variable {P : Program} {w : World} {A : Around} {E : Value → Shared → Prop} {s : Shared} {a : Addr} {xs : List Str}
theorem SetS.at {h h' : Heap} (R : SetS w h a xs) (k : ∀ o, h.get? a = some o → h'.get? a = some o) : SetS w h' a xs :=
  let ⟨o, rs, ep, tb, ⟨ho, hx, hd⟩, r⟩ := R
  ⟨o, rs, ep, tb, ⟨k o ho, hx, hd⟩, r⟩
theorem row_is {e : Int × Value} (g : RowS w e) (k : Str) : ((PySem.strKind P w).is k e.2 = true) ↔ kS e = k := by
  obtain ⟨z, tk, rfl⟩ := g
  exact ⟨fun h => by
    have := eq_of_beq (show (z == k) = true from h)
    exact this, fun h => (show (z == k) = true from beq_iff_eq.mpr h)⟩
theorem rows_elems {l : List (Int × Value)} (g : ∀ e ∈ l, RowS w e) : ElemsOf (PySem.strKind P w) l := fun e he => by
  obtain ⟨z, tk, rfl⟩ := g e he
  exact ⟨⟨z, (show (z == z) = true from beq_self_eq_true z), rfl⟩, rfl⟩
/-- what stands at a after a store -/
theorem stored {h : Heap} {o : Obj} {rs rs' : Array (Int × Value)} {ep : Nat} {tb tb' : SetTable} (ho : h.get? a = some o) (hd : o.data = .set rs ep tb) :
    (h.update a (Obj.putSet rs' tb')).get? a = some { o with data := .set rs' (ep + 1) tb' } := L2.store_at ho hd
/-- behind the place of a new row: stored, and laid anew where the table is full -/
theorem sS_tail {gv : Bool → Sem Unit} (hgv : ∀ (b : Bool) (z : Shared) (Qu : Unit → Shared → Prop), Qu () z → wpAny (model P w) A (gv b) Qu E z)
    {o : Obj} {rs r1 : Array (Int × Value)} {ep : Nat} {tb t1 : SetTable} (ho : s.heap.get? a = some o) (hex : o.ExactSet) (hd : o.data = .set rs ep tb) (hr1 : ∀ e ∈ r1.toList, RowS w e)
    {ys : List Str} (hp : (r1.toList.map kS).Perm ys) (hn : ys.Nodup) (hb : r1.size < scanBound) (hf : t1.fits r1.size = true) (hris : Ris t1.place.toList) (hled : w.params.followText "set-order" = true ∨ t1.led = true)
    {dum : Bool} {R : Option Bool → Shared → Prop} (hR : ∀ h', Heap.SameBut a s.heap h' → SetS w h' a ys → R (some true) { s with heap := h' }) :
    wpAny (model P w) A (do storeSet a r1 t1
                            if (!dum && t1.tooFull) = true then do
                              gv (relayAll t1 r1 (SetTable.grown r1.size)).2.2
                              storeSet a (relayAll t1 r1 (SetTable.grown r1.size)).1 (relayAll t1 r1 (SetTable.grown r1.size)).2.1
                              pure (some true)
                            else pure (some true)) R E s := by
  have same1 := Heap.SameBut.update s.heap a (Obj.putSet r1 t1)
  have at1 := stored (a := a) (rs' := r1) (tb' := t1) ho hd
  refine wpAny_bind (wpAny_storeSet_of ho hd ?_ (fits_of_scanBound hb))
  by_cases hfull : (!dum && t1.tooFull) = true
  · rw [if_pos hfull]
    have a1 := relayAll_perm t1 r1 (SetTable.grown r1.size)
    have a2 := relayAll_fits t1 r1 (SetTable.grown r1.size)
    have a3 := L2.relayAll_ris t1 r1 (SetTable.grown r1.size)
    have a4 := L2.relayAll_led t1 r1 (SetTable.grown r1.size)
    generalize relayAll t1 r1 (SetTable.grown r1.size) = Y at a1 a2 a3 a4 ⊢
    obtain ⟨r2, t2, gave⟩ := Y
    dsimp only at a1 a2 a3 a4 ⊢
    have size2 : r2.size = r1.size := by rw [← Array.length_toList, a1.length_eq, Array.length_toList]
    refine wpAny_bind (hgv _ _ _ ?_)
    refine wpAny_bind (wpAny_storeSet_of at1 rfl ?_ (fits_of_scanBound (size2.symm ▸ hb)))
    refine wpAny_pure (hR _ (same1.trans (Heap.SameBut.update _ a _)) ⟨_, r2, _, t2, ⟨stored at1 rfl, hex, rfl⟩, fun e he => hr1 e (a1.mem_iff.mp he), (a1.map kS).trans hp, hn, ⟨size2.symm ▸ hb, a2⟩, a3, hled.imp id fun z => a4.trans z⟩)
  · rw [if_neg hfull]
    exact wpAny_pure (hR _ same1 ⟨_, r1, _, t1, ⟨at1, hex, rfl⟩, hr1, hp, hn, ⟨hb, hf⟩, hris, hled⟩)
theorem sS_add {k : Str} {tk : Tok} {Q : Bool → Shared → Prop} (R : SetS w s.heap a xs) (room : xs.length + 1 < scanBound) (hQ : ∀ b h', Heap.SameBut a s.heap h' → SetS w h' a (addS xs k) → Q b { s with heap := h' }) :
    wpAny (model P w) A (setAddHashed a (.str k tk) ((PySem.strKind P w).hash k)) Q E s := by
  obtain ⟨o, rs, ep, tb, ⟨ho, hex, hd⟩, g, pm, nd, ⟨hb, hf⟩, hr, hl⟩ := R
  have el : ElemsOf (PySem.strKind P w) rs.toList := rows_elems g
  have key : (PySem.strKind P w).is k (.str k tk) = true := (show (k == k) = true from beq_self_eq_true k)
  have scn : (Value.str k tk).scannable = true := rfl
  have lenR : rs.size = xs.length := by rw [← Array.length_toList, ← pm.length_eq, List.length_map]
  have memR : ∀ z, z ∈ xs ↔ ∃ e ∈ rs.toList, (PySem.strKind P w).is z e.2 = true := fun z => by
    rw [← pm.mem_iff, List.mem_map]
    exact ⟨fun ⟨e, h1, h2⟩ => ⟨e, h1, (row_is (g e h1) z).mpr h2⟩, fun ⟨e, h1, h2⟩ => ⟨e, h1, (row_is (g e h1) z).mp h2⟩⟩
  unfold setAddHashed setAddHashedIn
  refine wpAny_holding (wpAny_bind (wpAny_setState_of ho hd hf ?_))
  dsimp only
  rw [byScan_of scn hb el]
  simp only [↓reduceIte]
  unfold setAddByScan
  refine wpAny_bind (wpAny_bind (wpAny_rule (wpAny_bind (wpAny_setScan_of key ho hd hf el ?_))))
  cases fnd : List.findIdx? (fun e => (PySem.strKind P w).is k e.2) rs.toList with
  | some j =>
    dsimp only
    obtain ⟨hj, pj, _⟩ := List.findIdx?_eq_some_iff_getElem.mp fnd
    have inx : k ∈ xs := (memR k).mpr ⟨_, List.getElem_mem hj, pj⟩
    refine wpAny_pure (wpAny_pure (hQ _ s.heap (Heap.SameBut.refl a s.heap) ?_))
    have e : addS xs k = xs := if_pos inx
    rw [e]
    exact ⟨o, rs, ep, tb, ⟨ho, hex, hd⟩, g, pm, nd, ⟨hb, hf⟩, hr, hl⟩
  | none =>
    dsimp only
    have nin : k ∉ xs := fun z => by
      obtain ⟨e, he, q⟩ := (memR k).mp z
      rw [List.findIdx?_eq_none_iff.mp fnd e he] at q
      cases q
    have e : addS xs k = k :: xs := if_neg nin
    rw [e] at hQ
    have gave' : ∀ (b : Bool) {z : Shared} {Qu : Unit → Shared → Prop}, Qu () z → wpAny (model P w) A (match b with | true => rule "set.scan.the-table-gave-way" | false => pure ()) Qu E z := fun b z Qu q => by
      cases b
      · exact wpAny_pure q
      · exact wpAny_rule q
    have b1 := layNew_perm tb rs ((PySem.strKind P w).hash k) (.str k tk)
    have b2 := layNew_fits tb rs ((PySem.strKind P w).hash k) (.str k tk)
    have b3 := L2.layNew_ris tb rs ((PySem.strKind P w).hash k) (.str k tk) hr
    have b4 := L2.layNew_led tb rs ((PySem.strKind P w).hash k) (.str k tk)
    generalize layNew tb rs ((PySem.strKind P w).hash k) (.str k tk) = Y at b1 b2 b3 b4 ⊢
    obtain ⟨r1, t1, dum, gave⟩ := Y
    dsimp only at b1 b2 b3 b4 ⊢
    rw [Array.toList_push] at b1
    have c1 : r1.toList.Perm (((PySem.strKind P w).hash k, Value.str k tk) :: rs.toList) := b1.trans (List.perm_append_singleton _ _)
    have c2 : (r1.toList.map kS).Perm (k :: xs) := (c1.map kS).trans (pm.cons k)
    have c3 : ∀ e ∈ r1.toList, RowS w e := fun e he => (List.mem_cons.mp (c1.mem_iff.mp he)).elim (fun z => ⟨k, tk, z⟩) (g e)
    have c4 : (k :: xs).Nodup := List.nodup_cons.mpr ⟨nin, nd⟩
    have c5 : r1.size < scanBound := by
      have z := c1.length_eq
      rw [Array.length_toList, List.length_cons, Array.length_toList, lenR] at z
      omega
    have c6 : w.params.followText "set-order" = true ∨ t1.led = true := hl.imp id fun z => b4.trans z
    refine wpAny_bind (gave' _ ?_)
    split
    · refine wpAny_bind ?_
      rw [hashByValue_scannable 8 scn]
      refine wpAny_pure (sS_tail ?_ ho hex hd c3 c2 c4 c5 ?_ ?_ ?_ ?_)
      · intro b z Qu q
        cases b
        · exact wpAny_pure q
        · exact wpAny_rule q
      · first | (split <;> first | exact b2 | exact SetTable.fits_plain_off b2) | exact b2
      · first | (split <;> exact b3) | exact b3
      · first | (split <;> exact c6) | exact c6
      · intro h' sb r
        dsimp only
        exact wpAny_pure (hQ _ h' sb r)
    · refine wpAny_bind (wpAny_pure ?_)
      simp only [↓reduceIte]
      refine sS_tail ?_ ho hex hd c3 c2 c4 c5 b2 b3 c6 ?_
      · intro b z Qu q
        cases b
        · exact wpAny_pure q
        · exact wpAny_rule q
      · intro h' sb r
        dsimp only
        exact wpAny_pure (hQ _ h' sb r)
theorem sS_new {h : Heap} (ho : h.get? a = some { cls := .type "set", dict := none, data := .set #[] 0 (.fresh 0 0 (!w.params.followText "set-order")) }) : SetS w h a [] := by
  refine ⟨_, #[], 0, _, ⟨ho, ⟨rfl, rfl, rfl⟩, rfl⟩, fun e he => ?_, List.Perm.refl _, List.nodup_nil, ⟨by decide, by rfl⟩, List.Pairwise.nil, ?_⟩
  · simp at he
  · show _ ∨ (!w.params.followText "set-order") = true
    cases w.params.followText "set-order"
    · exact .inr rfl
    · exact .inl rfl
/-- the walk that adds -/
theorem sS_update {I : Addr} {fp wr : List Addr} {G : Array GenState → Array GenState → Prop} {n : Nat} {Pv : Nat → Value → Prop} {St : Nat → Shared → Prop} {R : Result → Shared → Prop}
    (W : WalksS P w A.in1 I fp wr G n Pv St) (S : Addr) (out : S ∉ fp) (ns : List Str) (hn : n = ns.length) (hb : ns.length + 1 < scanBound) (hval : ∀ (i : Nat) (v : Value), Pv i v → ∃ (k : Str) (t : Tok), ns[i]? = some k ∧ v = Value.str k t) :
    ∀ (k i : Nat) (s : Shared), n - i = k → i ≤ n → St i s → SetS w s.heap S (setS (ns.take i)) → (∀ s', Moved (S :: wr) G s s' → SetS w s'.heap S (setS ns) → R (.ok (.ret .none)) s') →
      codeAny (model P w) A (.builtin "set.update.loop" ⟨[.ref S, .ref I], []⟩) R s := by
  have outW : S ∉ wr := fun h => out (W.sub _ h)
  have more : ∀ b ∈ wr, b ∈ S :: wr := fun b hb => List.mem_cons_of_mem _ hb
  intro k
  induction k with
  | zero =>
    intro i s ek hi hst hS hR
    have ei : i = n := by omega
    subst ei
    refine codeAny_builtin PyProof.Rows.F.entry_set_update_loop ?_
    rw [Around.under_plainId PyProof.Rows.F.plain_set_update_loop _]
    show wpAny _ A.in1 (pyNext (.ref I) >>= _) _ _ s
    refine wpAny_bind (W.done s _ _ hst fun s' hm => ?_)
    show wpAny _ A.in1 (ret Value.none) _ _ s'
    rw [List.take_of_length_le (Nat.le_of_eq hn.symm)] at hS
    exact wpAny_pure (hR s' (hm.mono more) (hS.at fun o e => hm.heap S o outW e))
  | succ k ih =>
    intro i s ek hi hst hS hR
    have lt : i < n := by omega
    refine codeAny_builtin PyProof.Rows.F.entry_set_update_loop ?_
    rw [Around.under_plainId PyProof.Rows.F.plain_set_update_loop _]
    show wpAny _ A.in1 (pyNext (.ref I) >>= _) _ _ s
    refine wpAny_bind (W.item i s _ _ lt hst fun v s' hP hst' hm => ?_)
    obtain ⟨z, t, hz, rfl⟩ := hval i v hP
    have hS' : SetS w s'.heap S (setS (ns.take i)) := hS.at fun o e => hm.heap S o outW e
    have lz : (setS (ns.take i)).length + 1 < scanBound := by
      have h1 := setS_len (ns.take i)
      rw [List.length_take] at h1
      omega
    show wpAny _ A.in1 (holding [Value.str z t] (setAdd S (.str z t)) >>= _) _ _ s'
    refine wpAny_bind (wpAny_holding ?_)
    unfold setAdd
    refine wpAny_holding (wpAny_bind ((PySem.strKind P w).pyHash (k := z) (show (z == z) = true from beq_self_eq_true z) ?_))
    refine sS_add (s := { s' with toks := s'.toks + 1 }) hS' lz fun b h' same hS2 => ?_
    have hS3 : SetS w h' S (setS (ns.take (i + 1))) := by
      have e : ns.take (i + 1) = ns.take i ++ [z] := by rw [List.take_add_one, hz] <;> rfl
      rw [e, setS_snoc]
      exact hS2
    refine wpAny_pure ⟨plainId_quiet PyProof.Rows.F.plain_set_update_loop _, ih (i + 1) _ (by omega) lt (W.frame _ s' _ _ hst' (Nat.le_succ _) fun b hb o e => ?_) hS3 fun s2 hm2 hS4 => ?_⟩
    · have ne : b ≠ S := fun h => out (h ▸ hb)
      rw [same.2 b ne]
      exact e
    · refine hR s2 (Moved.trans W.gtrans ((hm.mono more).then_heap (Nat.le_succ _) fun b o hb e => ?_) hm2) hS4
      have ne : b ≠ S := fun h => hb (h ▸ List.mem_cons_self)
      rw [same.2 b ne]
      exact e
abbrev freshS (w : World) : Obj := { cls := .type "set", dict := none, data := .set #[] 0 (.fresh 0 0 (!w.params.followText "set-order")) }
/-- set(l), l a list of texts -/
theorem set_strs {l : Addr} {its : Array Value} (ns : List Str) {Q : Value → Shared → Prop} (hh : A.handled = none) (hl : s.heap.IsList l its) (hz : its.size = ns.length) (hv : ∀ (i : Nat) (v : Value), its[i]? = some v → ∃ (k : Str) (t : Tok), ns[i]? = some k ∧ v = Value.str k t)
    (hb : ns.length + 1 < scanBound) (q : ∀ (h' : Heap) (tk : Nat), SetS w h' s.heap.objs.size (setS ns) → (∀ b o, s.heap.get? b = some o → h'.get? b = some o) → Q (.ref s.heap.objs.size) { s with heap := h', toks := tk }) :
    wpAny (model P w) A (call (.type "set") [.ref l]) Q E s := by
  obtain ⟨c, tl, hmro⟩ := PySem.F.called_set.mro
  have made := PySem.F.called_set.made
  have subs := PySem.F.called_set.sub
  refine wpAny_call (codeAny_of_tree ?_)
  show wpAny _ _ (callAny (.type "set") _) _ _ _
  refine wpAny_pure ⟨Code.quiet_builtin _ (by decide +kernel), codeAny_builtin PySem.F.entry_type_call ?_⟩
  rw [Around.under_plain (weight_type_call_type "set" [.ref l] []) rfl]
  have t1 := PySem.F.called_set.notType
  have t2 := PySem.F.called_set.canCreate
  have t3 := PySem.F.typeCall_set_1 (.ref l)
  repeat (any_goals (first | assumption | wp_step))
  refine codeAny_mono (L2.code_set_led1 (.ref l) (E := E) (Q₁ := fun ob z => ob = .ref s.heap.objs.size ∧ z = { s with heap := s.heap.push (freshS w) }) ⟨rfl, rfl⟩) fun r z hr => ?_
  cases r with
  | error e => exact hr
  | ok fl =>
    cases fl with
    | ret ob =>
      obtain ⟨rfl, rfl⟩ := hr
      have atS : (s.heap.push (freshS w)).get? s.heap.objs.size = some (freshS w) := Heap.get?_push_size _ rfl
      have isS : Shared.TypeIs { s with heap := s.heap.push (freshS w) } (.ref s.heap.objs.size) "set" := ⟨_, atS, rfl⟩
      have i1 := PySem.F.called_set.init.lookup
      have i2 := PySem.F.called_set.init.bind (.ref s.heap.objs.size)
      repeat (any_goals (first | assumption | wp_step))
      refine codeAny_mono (codeAny_call_builtin (R := wants (fun r z => r = .none ∧ ∃ h' tk, z = { s with heap := h', toks := tk } ∧ SetS w h' s.heap.objs.size (setS ns) ∧ (∀ b o, s.heap.get? b = some o → h'.get? b = some o)) E)
        PySem.F.called_set.init.plain PySem.F.entry_set_init (check_set_init_1 isS ?_)) fun r2 z2 hr2 => ?_
      · obtain ⟨ol, hol, hcl, nl, hdl⟩ := hl
        obtain ⟨ocls, odict, odata, oslots⟩ := ol
        simp only at hcl hdl
        subst hcl
        subst hdl
        have hol2 : (s.heap.push (freshS w)).get? l = some { cls := .type "list", dict := odict, data := .seq its nl, slots := oslots } := Heap.get?_push_of_some _ hol
        have u1 := PySem.F.sub_list_set
        have u2 := PySem.F.sub_list_frozenset
        have u3 : (Value.type "list" == Value.type "dict") = false := by decide
        have isL : (s.heap.push (freshS w)).IsList l its := ⟨_, hol2, rfl, nl, rfl⟩
        unfold Builtin.«set.__init__» noKeywords Builtin.Frozenset.updateFrom
        generalize ePI : pyIter = PI
        wp_walk
        subst ePI
        refine wpAny_pyIter_list isL ?_
        refine wpAny_bind (wpAny_runValue ?_)
        have lt : l < s.heap.objs.size := Heap.lt_size hol
        have cold : A.in1.in1.in1.handled = none := by simp [hh]
        have sz1 : (s.heap.push (freshS w)).objs.size = s.heap.objs.size + 1 := Heap.size_push ..
        have neI : l ≠ (s.heap.push (freshS w)).objs.size := sz1.symm ▸ Nat.ne_of_lt (Nat.lt_succ_of_lt lt)
        have notIn : s.heap.objs.size ∉ [(s.heap.push (freshS w)).objs.size, l] := by
          rw [sz1]
          intro hm
          rcases List.mem_cons.mp hm with e | e
          · exact Nat.ne_of_lt (Nat.lt_succ_self _) e
          · exact Nat.ne_of_gt lt (List.mem_singleton.mp e)
        refine sS_update ((Walks.list cold _ l neI its).toS) s.heap.objs.size notIn ns hz hb hv (its.size - 0) 0 _ (by omega) (Nat.zero_le _) ⟨⟨_, Heap.get?_push_size _ rfl, rfl, rfl⟩, (isL.push _)⟩ ?first ?last
        case first => exact sS_new (Heap.get?_push_of_some _ atS)
        case last =>
          intro s' hm hS'
          obtain ⟨h', g2, d2, tk2, os2⟩ := s'
          have eg : g2 = s.gens := hm.gens
          have ed : d2 = s.drawn := hm.drawn
          have eo : os2 = s.os := hm.os
          subst eg
          subst ed
          subst eo
          show wpAny _ _ _ _ _ _
          refine wpAny_pure ?_
          show wpAny _ _ (ret Value.none) _ _ _
          refine wpAny_pure ⟨rfl, h', tk2, rfl, hS', fun b o e => ?_⟩
          have lb : b < s.heap.objs.size := Heap.lt_size e
          refine hm.heap b o (fun z => ?_) (Heap.get?_push_of_some _ (Heap.get?_push_of_some _ e))
          rcases List.mem_cons.mp z with z | z
          · exact Nat.ne_of_lt lb z
          · exact Nat.ne_of_lt (Nat.lt_succ_of_lt lb) ((List.mem_singleton.mp z).trans sz1)
      · cases r2 with
        | error e => exact hr2
        | ok fl2 =>
          cases fl2 with
          | ret r =>
            obtain ⟨rfl, h', tk2, rfl, hS', hk⟩ := hr2
            repeat (any_goals (first | assumption | wp_step))
            exact q _ _ hS' hk
          | _ => exact hr2.elim
    | _ => exact hr.elim
theorem strs_rows : ∀ (l : List Value) (ys : List Str), (∀ v ∈ l, ∃ k tk, v = Value.str k tk) → l.map (fun v => match v with | .str k _ => k | _ => "") = ys → StrsAre l ys
  | [], _, _, rfl => .nil
  | v :: l, _, h, rfl => by
    obtain ⟨k, tk, rfl⟩ := h v List.mem_cons_self
    exact .cons k tk (strs_rows l _ (fun u hu => h u (List.mem_cons_of_mem _ hu)) rfl)
/-- sorted(set) -/
theorem sorted_setS {Q : Value → Shared → Prop} (R : SetS w s.heap a xs) (hh : A.handled = none) (h64 : xs.length < 64)
    (q : ∀ s' p (out : Array Value) (c : Nat) (ys : List Str), (∀ b o, s.heap.get? b = some o → s'.heap.get? b = some o) → s'.gens = s.gens → s'.os = s.os → s.heap.objs.size ≤ p → s'.heap.get? p = some (seqObj "list" out c) →
      StrsAre out.toList ys → ys.Perm xs → sortedS ys = true → Q (.ref p) s') : wpAny (model P w) A (call (.builtin "sorted") [.ref a]) Q E s := by
  obtain ⟨o, rs, ep, tb, ⟨ho, hex, hd⟩, g, pm, nd, ⟨hb, hf⟩, hr, hl⟩ := R
  refine Calls.call_function_entry kind_sorted plain_sorted entry_sorted (args_sorted1 _) ?_
  unfold Builtin.«sorted»
  refine wpAny_bind (m := checkCount "sorted" 1 1 _) (wpAny_pure ?_)
  refine wpAny_bind (L2.collect_set (A := A.in1) hh ⟨o, ho, hex.1, hd⟩ hf hb hr hl fun s1 vs k1 hz g1 o1 pv => ?_)
  have lv : vs.length = xs.length := by rw [pv.length_eq, List.length_map, ← pm.length_eq, List.length_map]
  have sv : StrsAre vs (vs.map fun v => match v with | .str k _ => k | _ => "") := strs_rows vs _ (fun v hv => by
    obtain ⟨e, he, rfl⟩ := List.mem_map.mp (pv.mem_iff.mp hv)
    obtain ⟨k, tk, rfl⟩ := g e he
    exact ⟨k, tk, rfl⟩) rfl
  have pk : (vs.map fun v => match v with | .str k _ => k | _ => "").Perm xs := by
    have z := pv.map fun v => match v with | .str k _ => k | _ => ""
    rw [List.map_map] at z
    exact z.trans pm
  refine wpAny_bind (wpAny_newList ?_ (by rw [lv, sizeLine_eq]; omega))
  have atL : (s1.heap.push (seqObj "list" vs.toArray 0)).get? s1.heap.objs.size = some (seqObj "list" vs.toArray 0) := Heap.get?_push_size _ rfl
  refine wpAny_bind (wpAny_holding (wpAny_call_entry slot_list_sort ⟨_, atL, rfl⟩ entry_list_sort
    (list_sort_treeK strKind_oneLt atL sv.keysOf (fun v₁ v₂ rest e => keyKind_strs (by rw [← e]; exact sv)) (by rw [lv]; exact h64) fun st' hp hs => ⟨_, rfl, ?_⟩) (args_list_sort _)))
  obtain ⟨ys, y1, y2, y3⟩ := sorted_out_str sv hp hs
  obtain ⟨c, hc⟩ := sortedHeap_at (vs := vs) (out := (arrOf st').map (·.2)) atL
  refine wpAny_pure ⟨_, rfl, q _ s1.heap.objs.size _ c ys (fun b u e => ?_) g1 o1 hz hc y1 (y2.trans pk) y3⟩
  have z := k1 b u e
  have lt := Heap.lt_size z
  show (sortedHeap (s1.heap.push (seqObj "list" vs.toArray 0)) s1.heap.objs.size vs ((arrOf st').map (·.2))).get? b = some u
  rw [sortedHeap_old (Nat.ne_of_lt lt) (by rw [size_push']; exact Nat.lt_succ_of_lt lt)]
  exact Heap.get?_push_of_some _ z
end
/-- the set in the mirror heap -/
def StS (w : World) (a : Addr) (xs : List Str) : HO := .ext fun h => SetS w h a xs
theorem stS_ok {P : Program} {w : World} {H : Hp} {h : Heap} {a : Addr} {xs : List Str} (R : SetS w h a xs) : ObjOk P w H h a (StS w a xs) :=
  ⟨R, (let ⟨o, _, _, _, ⟨ho, _⟩, _⟩ := R; ⟨o, ho⟩), fun h1 h2 p k => SetS.at p k⟩
section
variable {X : Cx}
def rSetS (K : PySem.W.Frag) (w : World) : List V → Hp → VK → Prop := fun vs H Q => ∃ (l : Addr) (ns : List Str), vs = [V.ref l] ∧ SqL K H l (ns.map V.str) ∧ ns.length + 1 < scanBound ∧ ∀ a, H a = none → Q (.ref a) (upd H a (StS w a (setS ns)))
theorem cr_setS (hc : X.calm = true) : CallR X (.type "set") (rSetS X.K X.w) := by
  intro pins s σ H vs us Q I r h
  obtain ⟨l, ns, rfl, hl, hb, q⟩ := h
  rw [Vals.ref1 r]
  obtain ⟨its, rv, pl, _⟩ := I.list hl
  have hz : its.toArray.size = ns.length := by rw [List.size_toArray, ← rv.length, List.length_map]
  refine set_strs (P := X.prog) (w := X.w) ns (I.ok.hd hc) pl.isList hz (fun i v hv => ?_) hb fun h' tk R k => ?_
  · have lt : i < ns.length := by
      rw [← hz]
      exact (Array.getElem?_eq_some_iff.mp hv).1
    obtain ⟨u, hu, t, et⟩ := rv.get (i := i) (x := .str ns[i]) (by simp [lt])
    have ev : its[i]? = some v := by simpa using hv
    rw [hu] at ev
    exact ⟨ns[i], t, List.getElem?_eq_getElem lt, (Option.some.inj ev).symm.trans et⟩
  · exact ⟨.ref s.heap.objs.size, upd H s.heap.objs.size (StS X.w s.heap.objs.size (setS ns)), I.laid (t' := tk) k (Nat.le_refl _) (stS_ok R), rfl, q _ (I.hok.fresh (Nat.le_refl _))⟩
def rSortSS (w : World) : List V → Hp → VK → Prop := fun vs H Q => ∃ (a : Addr) (xs : List Str), vs = [V.ref a] ∧ H a = some (StS w a xs) ∧ xs.length < 64 ∧ ∀ (ys : List Str) (p : Addr), ys.Perm xs → sortedS ys = true → H p = none → Q (.ref p) (upd H p (.lst (ys.map V.str)))
theorem cr_sortSS (hc : X.calm = true) : CallR X (.builtin "sorted") (rSortSS X.w) := by
  intro pins s σ H vs us Q I r h
  obtain ⟨a, xs, rfl, ha, h64, q⟩ := h
  have R : SetS X.w s.heap a xs := (I.hok a _ ha).1
  rw [Vals.ref1 r]
  refine sorted_setS R (I.ok.hd hc) h64 fun s' p out c ys k g o hp hg hs pm so => ?_
  have few : (ys.map V.str).length ≤ sizeLine := by rw [List.length_map, pm.length_eq, sizeLine_eq]; omega
  have hn : H p = none := I.hok.fresh hp
  have J : Inv X pins σ (upd H p (.lst (ys.map V.str))) { s with heap := s'.heap, gens := s'.gens, drawn := s'.drawn, toks := s'.toks } :=
    I.call (ch := []) (Un.laid k hp hn) (I.hok.laid k hp ⟨few, out.toList, c, vals_of_strs hs, hg⟩) (by rw [g]; exact I.bare) (fun _ z => nomatch z)
  have e : s' = { s with heap := s'.heap, gens := s'.gens, drawn := s'.drawn, toks := s'.toks } := by
    cases s'
    cases s
    cases o
    rfl
  rw [e]
  exact ⟨.ref p, _, J, rfl, q ys p pm so hn⟩
def rLenSS (w : World) : List V → Hp → VK → Prop := fun vs H Q => ∃ (a : Addr) (xs : List Str), vs = [V.ref a] ∧ H a = some (StS w a xs) ∧ Q (.int (xs.length : Nat)) H
theorem cr_lenSS : CallR X (.builtin "len") (rLenSS X.w) := by
  intro pins s σ H vs us Q I r h
  obtain ⟨a, xs, rfl, ha, q⟩ := h
  obtain ⟨o, rs, ep, tb, ⟨ho, hex, hd⟩, _, pm, _, ⟨hb, hf⟩, _⟩ := (show SetS X.w s.heap a xs from (I.hok a _ ha).1)
  have e : rs.size = xs.length := by rw [← Array.length_toList, ← pm.length_eq, List.length_map]
  rw [Vals.ref1 r]
  have few : (rs.size : Int) < 2 ^ 63 := by
    unfold scanBound at hb
    omega
  exact call_len_set ho hex hd hf few ⟨.int (xs.length : Nat), H, I.tok _, ⟨_, by rw [e]⟩, q⟩
/-! the same, the frag and the world named -/
theorem cr_setSw {K : PySem.W.Frag} {w : World} (hK : X.K = K) (hw : X.w = w) (hc : X.calm = true) : CallR X (.type "set") (rSetS K w) := by
  subst hK
  subst hw
  exact cr_setS hc
theorem cr_sortSSw {w : World} (hw : X.w = w) (hc : X.calm = true) : CallR X (.builtin "sorted") (rSortSS w) := by
  subst hw
  exact cr_sortSS hc
theorem cr_lenSSw {w : World} (hw : X.w = w) : CallR X (.builtin "len") (rLenSS w) := by
  subst hw
  exact cr_lenSS
end
end UP

set_option Elab.async false
set_option linter.all false
set_option maxRecDepth 100000
set_option maxHeartbeats 4000000
set_option pp.maxSteps 500
/-! ### dicts whose keys are None and tuples, at the machine's level -/
namespace UP.Dx
open PySem
open Sem (wp)
/-- the value v is the key k, and is None or a tuple -/
structure KeyAt (h : Heap) (k : NestedKey) (v : Value) : Prop where
  tell : NestedIs h k v
  low : k.depth ≤ 8
  form : v = .none ∨ ∃ a, v = .ref a
theorem KeyAt.one {h : Heap} {v : Value} {x y : NestedKey} (p : KeyAt h x v) (q : KeyAt h y v) : x = y := NestedIs.inj x y v p.tell q.tell
/-- the entries es have the keys ks -/
structure Ents (w : World) (h : Heap) (es : Array DictEntry) (ks : List NestedKey) : Prop where
  len : ks.length = es.size
  ent : ∀ (i : Nat) (k : NestedKey), ks[i]? = some k → ∃ e, es[i]? = some e ∧ e.hash = k.hash w ∧ KeyAt h k e.key
  once : ks.Nodup
def place (ks : List NestedKey) (k : NestedKey) : Option Nat := ks.findIdx? fun x => decide (x = k)
theorem place_at {ks : List NestedKey} (nd : ks.Nodup) {i : Nat} {k : NestedKey} (h : ks[i]? = some k) : place ks k = some i := by
  obtain ⟨l, e⟩ := List.getElem?_eq_some_iff.mp h
  refine List.findIdx?_eq_some_iff_getElem.mpr ⟨l, decide_eq_true e, fun j hj z => ?_⟩
  have ej : ks[j]'(Nat.lt_trans hj l) = ks[i] := (of_decide_eq_true z).trans e.symm
  exact absurd ((List.getElem_inj nd).mp ej) (Nat.ne_of_lt hj)
theorem place_no {ks : List NestedKey} {k : NestedKey} (h : ∀ i : Nat, ks[i]? ≠ some k) : place ks k = none := by
  refine List.findIdx?_eq_none_iff.mpr fun x hx => decide_eq_false fun e => ?_
  obtain ⟨i, hi⟩ := List.getElem?_of_mem hx
  exact h i (by rw [hi, e])
theorem place_ok {ks : List NestedKey} {i : Nat} {k : NestedKey} (h : place ks k = some i) : ks[i]? = some k := by
  obtain ⟨l, e, _⟩ := List.findIdx?_eq_some_iff_getElem.mp h
  rw [List.getElem?_eq_getElem l, of_decide_eq_true e]
theorem place_none {ks : List NestedKey} {k : NestedKey} (h : place ks k = none) : k ∉ ks := fun hm => by
  have := List.findIdx?_eq_none_iff.mp h k hm
  rw [decide_eq_true rfl] at this
  cases this
section
variable {prog : Program} {w : World} {A : Around} {E : Value → Shared → Prop} {s : Shared}
theorem hash_of {k : NestedKey} {v : Value} {Q : Int → Shared → Prop} (hu : A.units + 8 < cLine) (hk : KeyAt s.heap k v) (q : Q (k.hash w) { s with toks := s.toks + k.draws }) : wpAny (model prog w) A (pyHash v) Q E s :=
  pyHash_key k v A s Q hk.tell (Nat.lt_of_le_of_lt (Nat.add_le_add_left hk.low _) hu) q
theorem same_of {x y : NestedKey} {a b : Value} {Q : Bool → Shared → Prop} (hu : A.units + 8 < cLine) (hx : KeyAt s.heap x a) (hy : KeyAt s.heap y b) (q : Q (decide (x = y)) s) : wpAny (model prog w) A (eqBool a b) Q E s := by
  refine eqAt_key x y A s a b hx.tell hy.tell (Nat.lt_of_le_of_lt (Nat.add_le_add_left (Nat.le_trans (Nat.min_le_left _ _) hx.low) _) hu) prog w E Q ?_
  rw [← NestedKey.decide_eq]
  exact q
theorem still_of {k : NestedKey} {v : Value} {Q : Bool → Shared → Prop} (hk : KeyAt s.heap k v) (q : Q true s) : wpAny (model prog w) A (eqIsQuiet 8 v) Q E s := quiet_key k v 8 s hk.tell hk.low A E Q q
/-- no key of these tells that it is compared -/
theorem mute {v : Value} {k : NestedKey} {l : List Value} {Q : Bool → Shared → Prop} (hk : KeyAt s.heap k v) (hl : ∀ u ∈ l, ∃ y, KeyAt s.heap y u) (q : Q false s) : wpAny (model prog w) A (tableMayTell v l) Q E s := by
  unfold tableMayTell
  split
  · exact wpAny_pure q
  refine wpAny_bind (still_of hk ?_)
  simp only [Bool.not_true, Bool.false_eq_true, if_false]
  refine wpAny_bind (wpAny_forIn_list _ (fun todo r t => (t = s ∧ r = (none, ())) ∧ ∀ u ∈ todo, ∃ y, KeyAt s.heap y u) _ ?_ ?_ _ _ ⟨⟨rfl, rfl⟩, hl⟩)
  · rintro u todo r t ⟨⟨rfl, rfl⟩, ok⟩
    obtain ⟨y, hy⟩ := ok u (List.mem_cons_self ..)
    refine wpAny_bind (still_of hy ?_)
    simp only [Bool.not_true, Bool.false_eq_true, if_false]
    exact wpAny_pure ⟨⟨rfl, rfl⟩, fun z hz => ok z (List.mem_cons_of_mem _ hz)⟩
  · rintro r t ⟨⟨rfl, rfl⟩, _⟩
    exact wpAny_pure q
variable {d : Addr} {v : Value} {o : Obj} {es : Array DictEntry} {ep : Nat} {ks : List NestedKey} {k : NestedKey}
theorem Ents.key {i : Nat} {e : DictEntry} (hE : Ents w s.heap es ks) (hi : es[i]? = some e) : ∃ y, ks[i]? = some y ∧ e.hash = y.hash w ∧ KeyAt s.heap y e.key := by
  have l : i < ks.length := by rw [hE.len]; exact (Array.getElem?_eq_some_iff.mp hi).1
  obtain ⟨e', h1, h2, h3⟩ := hE.ent i _ (List.getElem?_eq_getElem l)
  rw [hi] at h1
  cases h1
  exact ⟨_, List.getElem?_eq_getElem l, h2, h3⟩
theorem in_places (hE : Ents w s.heap es ks) {i : Nat} (h : ks[i]? = some k) : i ∈ placesWithHash es.size (fun i => es[i]?.map (·.hash)) (k.hash w) := by
  obtain ⟨e, h1, h2, _⟩ := hE.ent i k h
  unfold placesWithHash
  refine List.mem_filter.mpr ⟨List.mem_range.mpr (Array.getElem?_eq_some_iff.mp h1).1, ?_⟩
  show (es[i]?.map (·.hash) == some (NestedKey.hash w k)) = true
  rw [h1, Option.map_some, h2]
  exact beq_self_eq_true _
theorem places_lt {i : Nat} {n : Nat} {f : Nat → Option Int} {x : Int} (h : i ∈ placesWithHash n f x) : i < n ∧ f i = some x := by
  unfold placesWithHash at h
  obtain ⟨h1, h2⟩ := List.mem_filter.mp h
  exact ⟨List.mem_range.mp h1, eq_of_beq h2⟩
/-- what is known of the places gone through: none is k's, or p is -/
def Seen (ks : List NestedKey) (k : NestedKey) (gone : List Nat) : Option Nat → Prop
  | none => ∀ p ∈ gone, ks[p]? ≠ some k
  | some p => p ∈ gone ∧ ks[p]? = some k
theorem Seen.more {gone : List Nat} {hit : Option Nat} {x : Nat} (h : Seen ks k gone hit) (n : ks[x]? ≠ some k) : Seen ks k (gone ++ [x]) hit := by
  cases hit with
  | some p => exact ⟨List.mem_append_left _ h.1, h.2⟩
  | none =>
    intro p hp
    rcases List.mem_append.mp hp with z | z
    · exact h p z
    · rw [List.mem_singleton.mp z]
      exact n
theorem Seen.last (hE : Ents w s.heap es ks) {hit : Option Nat} (h : Seen ks k (placesWithHash es.size (fun i => es[i]?.map (·.hash)) (k.hash w)) hit) : place ks k = hit := by
  cases hit with
  | some p => exact place_at hE.once h.2
  | none => exact place_no fun i hi => h i (in_places hE hi) hi
theorem plain_find {Q : Option Nat → Shared → Prop} (hu : A.units + 8 < cLine) (hk : KeyAt s.heap k v) (ho : s.heap.get? d = some o) (hd : o.data = .dict es ep) (hE : Ents w s.heap es ks) (q : Q (place ks k) s) :
    wpAny (model prog w) A (dictWalkPlain d v (k.hash w) es (placesWithHash es.size (fun i => es[i]?.map (·.hash)) (k.hash w))) Q E s := by
  have lt : ∀ p ∈ placesWithHash es.size (fun i => es[i]?.map (·.hash)) (k.hash w), p < es.size := fun p hp => (places_lt hp).1
  have fin := fun hit => Seen.last (k := k) (hit := hit) hE
  unfold dictWalkPlain
  generalize placesWithHash es.size (fun i => es[i]?.map (·.hash)) (k.hash w) = ps at *
  refine wpAny_bind (wpAny_forIn_list _ (fun todo b t => (t = s ∧ b = (none, ())) ∧ ∃ gone, gone ++ todo = ps ∧ Seen ks k gone none) _ ?_ ?_ _ _ ⟨⟨rfl, rfl⟩, [], rfl, fun p hp => by cases hp⟩)
  · rintro x todo b t ⟨⟨rfl, rfl⟩, gone, eg, hs⟩
    have xl := lt x (by rw [← eg]; exact List.mem_append_right _ (List.mem_cons_self ..))
    obtain ⟨y, hy, h1, h2⟩ := hE.key (Array.getElem?_eq_getElem xl)
    have nxt : y ≠ k → ∃ gone, gone ++ todo = ps ∧ Seen ks k gone none := fun n => ⟨gone ++ [x], by rw [List.append_assoc]; exact eg, hs.more fun z => n (by rw [hy] at z; exact Option.some.inj z)⟩
    simp only [Array.getElem?_eq_getElem xl]
    split
    · refine wpAny_bind (wpAny_dictEpoch ho hd (wpAny_bind (same_of hu h2 hk (wpAny_bind (wpAny_dictEpoch ho hd ?_)))))
      simp only [bne_self_eq_false, Bool.false_eq_true, if_false]
      by_cases e : y = k
      · rw [decide_eq_true e]
        rw [place_at hE.once (by rw [hy, e])] at q
        exact wpAny_bind (wpAny_rule (wpAny_pure (wpAny_pure q)))
      · rw [decide_eq_false e]
        exact wpAny_bind (wpAny_rule (wpAny_pure ⟨⟨rfl, rfl⟩, nxt e⟩))
    · next n => exact wpAny_pure ⟨⟨rfl, rfl⟩, nxt fun e => n (by rw [h1, e]; exact beq_self_eq_true _)⟩
  · rintro b t ⟨⟨rfl, rfl⟩, gone, eg, hs⟩
    rw [List.append_nil] at eg
    subst eg
    refine wpAny_pure ?_
    rw [fin none hs] at q
    exact q
theorem find_k {Q : Option Nat → Shared → Prop} (hu : A.units + 8 < cLine) (hk : KeyAt s.heap k v) (ho : s.heap.get? d = some o) (hd : o.data = .dict es ep) (hE : Ents w s.heap es ks) (q : Q (place ks k) s) :
    wpAny (model prog w) A (dictFind d v (k.hash w)) Q E s := by
  have pf := plain_find (E := E) (prog := prog) hu hk ho hd hE q
  have lt : ∀ p ∈ placesWithHash es.size (fun i => es[i]?.map (·.hash)) (k.hash w), p < es.size := fun p hp => (places_lt hp).1
  have fin := fun hit => Seen.last (k := k) (hit := hit) hE
  have nd : (placesWithHash es.size (fun i => es[i]?.map (·.hash)) (k.hash w)).Nodup := List.nodup_range.filter _
  have st : ∀ u ∈ (placesWithHash es.size (fun i => es[i]?.map (·.hash)) (k.hash w)).filterMap (fun i => es[i]?.map (·.key)), ∃ y, KeyAt s.heap y u := fun u hu' => by
    obtain ⟨i, hi, e1⟩ := List.mem_filterMap.mp hu'
    have il := lt i hi
    rw [Array.getElem?_eq_getElem il, Option.map_some] at e1
    cases e1
    obtain ⟨y, _, _, h2⟩ := hE.key (Array.getElem?_eq_getElem il)
    exact ⟨y, h2⟩
  unfold dictFind
  try with_reducible refine wpAny_holding ?_
  refine wpAny_bind (wpAny_dictEntries ho hd ?_)
  generalize hps : placesWithHash es.size (fun i => es[i]?.map (·.hash)) (k.hash w) = ps at *
  rcases hk.form with ev | ⟨a, ev⟩
  · subst ev
    dsimp only
    by_cases c1 : (Value.none :: List.filterMap (fun i => es[i]?.map (·.key)) ps).all carriedByValue = true
    · rw [if_pos c1]
      exact pf
    rw [if_neg c1]
    by_cases c2 : (List.filterMap (fun i => es[i]?.map (·.key)) ps == [Value.none]) = true
    · rw [if_pos c2]
      refine wpAny_bind (wpAny_pure ?_)
      rw [if_neg (show ¬ (false && _) = true by rw [Bool.false_and]; exact Bool.false_ne_true)]
      refine wpAny_bind (wpAny_forIn_list _ (fun todo b t => t = s ∧ ∃ hit gone, b = (none, hit) ∧ gone ++ todo = ps ∧ Seen ks k gone hit) _ ?_ ?_ _ _ ⟨rfl, none, [], rfl, rfl, fun p hp => by cases hp⟩)
      · rintro x todo b t ⟨rfl, hit, gone, rfl, eg, hs⟩
        have xl := lt x (by rw [← eg]; exact List.mem_append_right _ (List.mem_cons_self ..))
        have eg2 : (gone ++ [x]) ++ todo = ps := by rw [List.append_assoc]; exact eg
        obtain ⟨y, hy, h1, h2⟩ := hE.key (Array.getElem?_eq_getElem xl)
        simp only [Array.getElem?_eq_getElem xl]
        split
        · refine wpAny_bind (wpAny_dictEpoch ho hd (wpAny_bind (same_of hu h2 hk (wpAny_bind (wpAny_dictEpoch ho hd ?_)))))
          rw [if_neg (show ¬ (ep != ep) = true by rw [bne_self_eq_false]; exact Bool.false_ne_true)]
          by_cases e : y = k
          · have hx : ks[x]? = some k := by rw [hy, e]
            rw [decide_eq_true e]
            cases hit with
            | some p =>
              have px := place_at hE.once hs.2
              rw [place_at hE.once hx] at px
              cases px
              rw [← eg, List.nodup_append] at nd
              exact absurd rfl (nd.2.2 _ hs.1 _ (List.mem_cons_self ..))
            | none =>
              simp only [if_true, Option.isSome_none, Bool.false_eq_true, if_false]
              refine wpAny_bind (wpAny_rule ?_)
              split
              · rw [place_at hE.once hx] at q
                exact wpAny_pure (wpAny_pure q)
              · exact wpAny_pure ⟨rfl, some x, gone ++ [x], rfl, eg2, List.mem_append_right _ (List.mem_cons_self ..), hx⟩
          · rw [decide_eq_false e]
            simp only [Bool.false_eq_true, if_false]
            exact wpAny_bind (wpAny_rule (wpAny_pure ⟨rfl, hit, gone ++ [x], rfl, eg2, hs.more fun z => e (by rw [hy] at z; exact Option.some.inj z)⟩))
        · next n => exact wpAny_pure ⟨rfl, hit, gone ++ [x], rfl, eg2, hs.more fun z => n (by rw [hy] at z; rw [h1, Option.some.inj z]; exact beq_self_eq_true _)⟩
      · rintro b t ⟨rfl, hit, gone, rfl, eg, hs⟩
        rw [List.append_nil] at eg
        subst eg
        rw [fin hit hs] at q
        exact wpAny_pure q
    · rw [if_neg c2]
      refine wpAny_bind (mute hk st ?_)
      rw [if_neg (show ¬ (false && _) = true by rw [Bool.false_and]; exact Bool.false_ne_true)]
      refine wpAny_bind (wpAny_forIn_list _ (fun todo b t => t = s ∧ ∃ hit gone, b = (none, hit) ∧ gone ++ todo = ps ∧ Seen ks k gone hit) _ ?_ ?_ _ _ ⟨rfl, none, [], rfl, rfl, fun p hp => by cases hp⟩)
      · rintro x todo b t ⟨rfl, hit, gone, rfl, eg, hs⟩
        have xl := lt x (by rw [← eg]; exact List.mem_append_right _ (List.mem_cons_self ..))
        have eg2 : (gone ++ [x]) ++ todo = ps := by rw [List.append_assoc]; exact eg
        obtain ⟨y, hy, h1, h2⟩ := hE.key (Array.getElem?_eq_getElem xl)
        simp only [Array.getElem?_eq_getElem xl]
        split
        · refine wpAny_bind (wpAny_dictEpoch ho hd (wpAny_bind (same_of hu h2 hk (wpAny_bind (wpAny_dictEpoch ho hd ?_)))))
          rw [if_neg (show ¬ (ep != ep) = true by rw [bne_self_eq_false]; exact Bool.false_ne_true)]
          by_cases e : y = k
          · have hx : ks[x]? = some k := by rw [hy, e]
            rw [decide_eq_true e]
            cases hit with
            | some p =>
              have px := place_at hE.once hs.2
              rw [place_at hE.once hx] at px
              cases px
              rw [← eg, List.nodup_append] at nd
              exact absurd rfl (nd.2.2 _ hs.1 _ (List.mem_cons_self ..))
            | none =>
              simp only [if_true, Option.isSome_none, Bool.false_eq_true, if_false]
              refine wpAny_bind (wpAny_rule ?_)
              split
              · rw [place_at hE.once hx] at q
                exact wpAny_pure (wpAny_pure q)
              · exact wpAny_pure ⟨rfl, some x, gone ++ [x], rfl, eg2, List.mem_append_right _ (List.mem_cons_self ..), hx⟩
          · rw [decide_eq_false e]
            simp only [Bool.false_eq_true, if_false]
            exact wpAny_bind (wpAny_rule (wpAny_pure ⟨rfl, hit, gone ++ [x], rfl, eg2, hs.more fun z => e (by rw [hy] at z; exact Option.some.inj z)⟩))
        · next n => exact wpAny_pure ⟨rfl, hit, gone ++ [x], rfl, eg2, hs.more fun z => n (by rw [hy] at z; rw [h1, Option.some.inj z]; exact beq_self_eq_true _)⟩
      · rintro b t ⟨rfl, hit, gone, rfl, eg, hs⟩
        rw [List.append_nil] at eg
        subst eg
        rw [fin hit hs] at q
        exact wpAny_pure q
  · subst ev
    dsimp only
    have no : ¬ (es.any fun e => e.key == Value.ref a && e.hash != k.hash w) = true := fun z => by
      obtain ⟨i, hi, z⟩ := Array.any_eq_true.mp z
      obtain ⟨y, _, h1, h2⟩ := hE.key (Array.getElem?_eq_getElem hi)
      rw [Bool.and_eq_true] at z
      rw [eq_of_beq z.1] at h2
      rw [h1, h2.one hk] at z
      simp at z
    rw [if_neg (show ¬ (Value.ref a :: List.filterMap (fun i => es[i]?.map (·.key)) ps).all carriedByValue = true by rw [List.all_cons]; exact Bool.false_ne_true), if_neg no]
    by_cases c2 : (List.filterMap (fun i => es[i]?.map (·.key)) ps == [Value.ref a]) = true
    · rw [if_pos c2]
      refine wpAny_bind (wpAny_pure ?_)
      rw [if_neg (show ¬ (false && _) = true by rw [Bool.false_and]; exact Bool.false_ne_true)]
      refine wpAny_bind (wpAny_forIn_list _ (fun todo b t => t = s ∧ ∃ hit gone, b = (none, hit) ∧ gone ++ todo = ps ∧ Seen ks k gone hit) _ ?_ ?_ _ _ ⟨rfl, none, [], rfl, rfl, fun p hp => by cases hp⟩)
      · rintro x todo b t ⟨rfl, hit, gone, rfl, eg, hs⟩
        have xl := lt x (by rw [← eg]; exact List.mem_append_right _ (List.mem_cons_self ..))
        have eg2 : (gone ++ [x]) ++ todo = ps := by rw [List.append_assoc]; exact eg
        obtain ⟨y, hy, h1, h2⟩ := hE.key (Array.getElem?_eq_getElem xl)
        simp only [Array.getElem?_eq_getElem xl]
        split
        · refine wpAny_bind (wpAny_dictEpoch ho hd (wpAny_bind (same_of hu h2 hk (wpAny_bind (wpAny_dictEpoch ho hd ?_)))))
          rw [if_neg (show ¬ (ep != ep) = true by rw [bne_self_eq_false]; exact Bool.false_ne_true)]
          by_cases e : y = k
          · have hx : ks[x]? = some k := by rw [hy, e]
            rw [decide_eq_true e]
            cases hit with
            | some p =>
              have px := place_at hE.once hs.2
              rw [place_at hE.once hx] at px
              cases px
              rw [← eg, List.nodup_append] at nd
              exact absurd rfl (nd.2.2 _ hs.1 _ (List.mem_cons_self ..))
            | none =>
              simp only [if_true, Option.isSome_none, Bool.false_eq_true, if_false]
              refine wpAny_bind (wpAny_rule ?_)
              split
              · rw [place_at hE.once hx] at q
                exact wpAny_pure (wpAny_pure q)
              · exact wpAny_pure ⟨rfl, some x, gone ++ [x], rfl, eg2, List.mem_append_right _ (List.mem_cons_self ..), hx⟩
          · rw [decide_eq_false e]
            simp only [Bool.false_eq_true, if_false]
            exact wpAny_bind (wpAny_rule (wpAny_pure ⟨rfl, hit, gone ++ [x], rfl, eg2, hs.more fun z => e (by rw [hy] at z; exact Option.some.inj z)⟩))
        · next n => exact wpAny_pure ⟨rfl, hit, gone ++ [x], rfl, eg2, hs.more fun z => n (by rw [hy] at z; rw [h1, Option.some.inj z]; exact beq_self_eq_true _)⟩
      · rintro b t ⟨rfl, hit, gone, rfl, eg, hs⟩
        rw [List.append_nil] at eg
        subst eg
        rw [fin hit hs] at q
        exact wpAny_pure q
    · rw [if_neg c2]
      refine wpAny_bind (mute hk st ?_)
      rw [if_neg (show ¬ (false && _) = true by rw [Bool.false_and]; exact Bool.false_ne_true)]
      refine wpAny_bind (wpAny_forIn_list _ (fun todo b t => t = s ∧ ∃ hit gone, b = (none, hit) ∧ gone ++ todo = ps ∧ Seen ks k gone hit) _ ?_ ?_ _ _ ⟨rfl, none, [], rfl, rfl, fun p hp => by cases hp⟩)
      · rintro x todo b t ⟨rfl, hit, gone, rfl, eg, hs⟩
        have xl := lt x (by rw [← eg]; exact List.mem_append_right _ (List.mem_cons_self ..))
        have eg2 : (gone ++ [x]) ++ todo = ps := by rw [List.append_assoc]; exact eg
        obtain ⟨y, hy, h1, h2⟩ := hE.key (Array.getElem?_eq_getElem xl)
        simp only [Array.getElem?_eq_getElem xl]
        split
        · refine wpAny_bind (wpAny_dictEpoch ho hd (wpAny_bind (same_of hu h2 hk (wpAny_bind (wpAny_dictEpoch ho hd ?_)))))
          rw [if_neg (show ¬ (ep != ep) = true by rw [bne_self_eq_false]; exact Bool.false_ne_true)]
          by_cases e : y = k
          · have hx : ks[x]? = some k := by rw [hy, e]
            rw [decide_eq_true e]
            cases hit with
            | some p =>
              have px := place_at hE.once hs.2
              rw [place_at hE.once hx] at px
              cases px
              rw [← eg, List.nodup_append] at nd
              exact absurd rfl (nd.2.2 _ hs.1 _ (List.mem_cons_self ..))
            | none =>
              simp only [if_true, Option.isSome_none, Bool.false_eq_true, if_false]
              refine wpAny_bind (wpAny_rule ?_)
              split
              · rw [place_at hE.once hx] at q
                exact wpAny_pure (wpAny_pure q)
              · exact wpAny_pure ⟨rfl, some x, gone ++ [x], rfl, eg2, List.mem_append_right _ (List.mem_cons_self ..), hx⟩
          · rw [decide_eq_false e]
            simp only [Bool.false_eq_true, if_false]
            exact wpAny_bind (wpAny_rule (wpAny_pure ⟨rfl, hit, gone ++ [x], rfl, eg2, hs.more fun z => e (by rw [hy] at z; exact Option.some.inj z)⟩))
        · next n => exact wpAny_pure ⟨rfl, hit, gone ++ [x], rfl, eg2, hs.more fun z => n (by rw [hy] at z; rw [h1, Option.some.inj z]; exact beq_self_eq_true _)⟩
      · rintro b t ⟨rfl, hit, gone, rfl, eg, hs⟩
        rw [List.append_nil] at eg
        subst eg
        rw [fin hit hs] at q
        exact wpAny_pure q
/-- at d stands a dict with these entries -/
def DictE (w : World) (h : Heap) (d : Addr) (es : Array DictEntry) (ks : List NestedKey) : Prop := ∃ o ep, h.get? d = some o ∧ o.ExactDict ∧ o.data = .dict es ep ∧ Ents w h es ks
theorem DictE.isDict (D : DictE w s.heap d es ks) : s.TypeIs (.ref d) "dict" := by
  obtain ⟨o, _, h1, h2, _⟩ := D
  exact ⟨o, h1, h2.1⟩
def gotE (es : Array DictEntry) (ks : List NestedKey) (k : NestedKey) : Option Value := (place ks k).bind fun i => es[i]?.map (·.val)
theorem look {Q : Option Value → Shared → Prop} (hu : A.units + 8 < cLine) (hk : KeyAt s.heap k v) (D : DictE w s.heap d es ks) (q : Q (gotE es ks k) { s with toks := s.toks + k.draws }) : wpAny (model prog w) A (dictGet d v) Q E s := by
  obtain ⟨o, ep, ho, _, hd, hE⟩ := D
  unfold dictGet
  try with_reducible refine wpAny_holding ?_
  refine wpAny_bind (hash_of hu hk (wpAny_bind (find_k (s := { s with toks := s.toks + k.draws }) hu hk ho hd hE ?_)))
  unfold gotE at q
  cases hp : place ks k with
  | none =>
    rw [hp] at q
    exact wpAny_pure q
  | some i =>
    rw [hp] at q
    exact wpAny_bind (wpAny_dictEntries (s := { s with toks := s.toks + k.draws }) ho hd (wpAny_pure q))
theorem KeyAt.stay {h h' : Heap} {k : NestedKey} {v : Value} (hk : KeyAt h k v) (ho : h.get? d = some o) (hd : o.data = .dict es ep) (sb : Heap.SameBut d h h') : KeyAt h' k v := by
  refine ⟨NestedIs.at (fun b ob l n e1 e2 => ?_) k v hk.tell, hk.low, hk.form⟩
  have nb : b ≠ d := fun z => by
    rw [z, ho] at e1
    cases e1
    rw [hd] at e2
    cases e2
  exact (sb.2 b nb).trans e1
theorem Ents.stay {h h' : Heap} (hE : Ents w h es ks) (ho : h.get? d = some o) (hd : o.data = .dict es ep) (sb : Heap.SameBut d h h') : Ents w h' es ks := by
  refine ⟨hE.len, fun i k hi => ?_, hE.once⟩
  obtain ⟨e, h1, h2, h3⟩ := hE.ent i k hi
  exact ⟨e, h1, h2, h3.stay ho hd sb⟩
theorem Ents.add {h : Heap} {x : Value} (hE : Ents w h es ks) (hk : KeyAt h k v) (n : place ks k = none) : Ents w h (es.push ⟨k.hash w, v, x⟩) (ks ++ [k]) := by
  refine ⟨by rw [List.length_append, Array.size_push, hE.len]; rfl, fun i y hi => ?_, ?_⟩
  · rcases Nat.lt_or_ge i ks.length with l | l
    · rw [List.getElem?_append_left l] at hi
      obtain ⟨e, h1, h2⟩ := hE.ent i y hi
      refine ⟨e, ?_, h2⟩
      rw [Array.getElem?_push, if_neg (by rw [← hE.len]; omega)]
      exact h1
    · rw [List.getElem?_append_right l] at hi
      have e0 : i - ks.length = 0 := by
        have := (List.getElem?_eq_some_iff.mp hi).1
        rw [List.length_singleton] at this
        omega
      rw [e0] at hi
      cases hi
      refine ⟨⟨k.hash w, v, x⟩, ?_, rfl, hk⟩
      rw [Array.getElem?_push, if_pos (by rw [← hE.len]; omega)]
  · refine List.nodup_append.mpr ⟨hE.once, List.nodup_cons.mpr ⟨List.not_mem_nil, List.nodup_nil⟩, fun a ha b hb => ?_⟩
    rw [List.mem_singleton.mp hb]
    exact fun z => place_none n (z ▸ ha)
theorem Ents.over {h : Heap} {i : Nat} {x : Value} (hE : Ents w h es ks) : Ents w h (es.modify i fun e => { e with val := x }) ks := by
  refine ⟨by rw [Array.size_modify]; exact hE.len, fun j y hj => ?_, hE.once⟩
  obtain ⟨e, h1, h2, h3⟩ := hE.ent j y hj
  rw [Array.getElem?_modify, h1]
  by_cases c : i = j
  · rw [if_pos c]
    exact ⟨_, rfl, h2, h3⟩
  · rw [if_neg c]
    exact ⟨_, rfl, h2, h3⟩
/-- the entries behind d[k] = x -/
def putE (w : World) (es : Array DictEntry) (ks : List NestedKey) (k : NestedKey) (v x : Value) : Array DictEntry × List NestedKey := match place ks k with
  | some i => (es.modify i fun e => { e with val := x }, ks)
  | none => (es.push ⟨k.hash w, v, x⟩, ks ++ [k])
theorem store {x : Value} {Q : Unit → Shared → Prop} (hu : A.units + 8 < cLine) (hk : KeyAt s.heap k v) (D : DictE w s.heap d es ks) (hz : es.size ≤ sizeLine)
    (q : ∀ h', DictE w h' d (putE w es ks k v x).1 (putE w es ks k v x).2 → Heap.SameBut d s.heap h' → Q () { s with heap := h', toks := s.toks + k.draws }) : wpAny (model prog w) A (dictSet d v x) Q E s := by
  obtain ⟨o, ep, ho, hc, hd, hE⟩ := D
  unfold dictSet
  try with_reducible refine wpAny_holding ?_
  refine wpAny_bind (hash_of hu hk ?_)
  unfold dictSetHashed
  try with_reducible refine wpAny_holding ?_
  refine wpAny_bind (find_k (s := { s with toks := s.toks + k.draws }) hu hk ho hd hE ?_)
  unfold putE at q
  cases hp : place ks k with
  | some i =>
    rw [hp] at q
    have sb : Heap.SameBut d s.heap (s.heap.update d (Obj.mapDict fun l => l.modify i fun e => { e with val := x })) := Heap.SameBut.update ..
    exact wpAny_bind (wpAny_rule (wpAny_bind (wpAny_updateDict (s := { s with toks := s.toks + k.draws }) ho hd (wpAny_point (q _ ⟨_, ep, Heap.get?_update_self _ ho (Obj.isFreed_of_dict (Obj.data_mapDict hd _)), hc.mapDict _, Obj.data_mapDict hd _, (hE.stay ho hd sb).over⟩ sb)))))
  | none =>
    rw [hp] at q
    have sb : Heap.SameBut d s.heap (s.heap.update d (Obj.mapDictKeys fun l => l.push ⟨k.hash w, v, x⟩)) := Heap.SameBut.update ..
    exact wpAny_bind (wpAny_rule (wpAny_updateDictKeys (hz := hz) (s := { s with toks := s.toks + k.draws }) ho hd (q _ ⟨_, ep + 1, Heap.get?_update_self _ ho (Obj.isFreed_of_dict (Obj.data_mapDictKeys hd _)), hc.mapDictKeys _, Obj.data_mapDictKeys hd _, (hE.stay ho hd sb).add (hk.stay ho hd sb) hp⟩ sb)))
theorem gotE_some : (gotE es ks k).isSome = true ↔ ∃ i e, place ks k = some i ∧ es[i]? = some e := by
  unfold gotE
  cases hp : place ks k with
  | none => simp
  | some i => cases he : es[i]? <;> simp [he]
/-- k in d -/
theorem has_k {Q : Value → Shared → Prop} (hu : A.units + 1 + 8 < cLine) (hk : KeyAt s.heap k v) (nm : (d == sysModules) = false) (D : DictE w s.heap d es ks) (q : Q (.bool (gotE es ks k).isSome) { s with toks := s.toks + k.draws }) :
    wpAny (model prog w) A (compareOp .In v (.ref d)) Q E s := by
  show wpAny _ _ (do return .bool (← contains (.ref d) v)) Q E s
  refine wpAny_bind (wpAny_contains_slot D.isDict F.slot_dict_contains (call_meetsIn F.slot_dict_contains D.isDict F.entry_dict_contains (F.args_dict_contains_2 _ _) (S := fun B R t => B = A ∧ t = s ∧ R (.ok (.ret (.bool (gotE es ks k).isSome))) { s with toks := s.toks + k.draws }) (fun B R t hS => ?_) ⟨rfl, rfl, wpAny_truthy_bool (wpAny_pure q)⟩))
  obtain ⟨rfl, rfl, hR⟩ := hS
  show wpAny _ _ (dictGet d v >>= _) _ _ _
  refine wpAny_bind (look (A := B.in1) hu hk D ?_)
  cases hg : gotE es ks k with
  | some x =>
    rw [hg] at hR
    show wpAny _ _ (ret (.bool true)) _ _ _
    exact wpAny_pure hR
  | none =>
    rw [hg] at hR
    show wpAny _ _ (Builtin.Dict.pendingKey? d v >>= _) _ _ _
    exact wpAny_bind (wpAny_pendingKey_other nm (wpAny_pure hR))
/-- d[k], which is there -/
theorem item_k {x : Value} {Q : Value → Shared → Prop} (hu : A.units + 1 + 8 < cLine) (hk : KeyAt s.heap k v) (D : DictE w s.heap d es ks) (g : gotE es ks k = some x) (q : Q x { s with toks := s.toks + k.draws }) : wpAny (model prog w) A (getItem (.ref d) v) Q E s := by
  unfold getItem
  try with_reducible refine wpAny_holding ?_
  refine wpAny_bind (wpAny_sequenceKey D.isDict (by decide) (wpAny_bind (wpAny_callSpecial?_slot (name := Str.ofString "__getitem__") D.isDict slot_dict_getitem (wpAny_call_entry slot_dict_getitem D.isDict entry_dict_getitem ?_ (args_dict_getitem _ _)))))
  show wpAny _ _ (dictGet d v >>= _) _ _ s
  refine wpAny_bind (look (A := A.in1) hu hk D ?_)
  rw [g]
  exact wpAny_pure ⟨x, rfl, wpAny_pure q⟩
/-- d[k] = x -/
theorem put_k {x : Value} {Q : Unit → Shared → Prop} (hu : A.units + 1 + 8 < cLine) (hk : KeyAt s.heap k v) (D : DictE w s.heap d es ks) (hz : es.size ≤ sizeLine)
    (q : ∀ h', DictE w h' d (putE w es ks k v x).1 (putE w es ks k v x).2 → Heap.SameBut d s.heap h' → Q () { s with heap := h', toks := s.toks + k.draws }) : wpAny (model prog w) A (setItem (.ref d) v x) Q E s := by
  unfold setItem
  try with_reducible refine wpAny_holding ?_
  refine wpAny_bind (wpAny_sequenceKey D.isDict (by decide) (wpAny_bind (wpAny_callSpecial?_slot (name := Str.ofString "__setitem__") D.isDict slot_dict_setitem (wpAny_call_entry slot_dict_setitem D.isDict entry_dict_setitem ?_ (args_dict_setitem _ _ _)))))
  show wpAny _ _ (Builtin.Dict.notOrdered "__setitem__" ⟨[.ref d, v, x], []⟩ >>= _) _ _ s
  refine wpAny_bind (wpAny_notOrdered_dict D.isDict ?_)
  show wpAny _ _ (dictSet d v x >>= _) _ _ s
  exact wpAny_bind (store (A := A.in1) hu hk D hz fun h' D' sb => wpAny_pure ⟨.none, rfl, wpAny_pure (q h' D' sb)⟩)
/-- d.get(k, x) -/
theorem get_k {x : Value} {Q : Value → Shared → Prop} (hu : A.units + 1 + 8 < cLine) (hk : KeyAt s.heap k v) (nm : (d == sysModules) = false) (D : DictE w s.heap d es ks) (q : Q ((gotE es ks k).getD x) { s with toks := s.toks + k.draws }) :
    wpAny (model prog w) A (call (.builtin "dict.get") [.ref d, v, x]) Q E s := by
  refine call_meetsIn F.slot_dict_get D.isDict F.entry_dict_get (F.args_dict_get_3 _ _ _) (S := fun B R t => B = A ∧ t = s ∧ R (.ok (.ret ((gotE es ks k).getD x))) { s with toks := s.toks + k.draws }) (fun B R t hS => ?_) ⟨rfl, rfl, q⟩
  obtain ⟨rfl, rfl, hR⟩ := hS
  show wpAny _ _ (dictGet d v >>= _) _ _ _
  refine wpAny_bind (look (A := B.in1) hu hk D ?_)
  cases hg : gotE es ks k with
  | some y =>
    rw [hg] at hR
    exact wpAny_pure hR
  | none =>
    rw [hg] at hR
    show wpAny _ _ (Builtin.Dict.missed d v >>= _) _ _ _
    exact wpAny_bind (wpAny_missed_other nm (wpAny_pure hR))
end
end UP.Dx

set_option Elab.async false
set_option linter.all false
set_option maxRecDepth 100000
set_option maxHeartbeats 4000000
set_option pp.maxSteps 500
/-! ### dicts whose keys are None and tuples: what the walks say of them -/
namespace UP
open PySem PySem.Spec PyProof.Rows L2
mutual
/-- the value v is the key k -/
inductive NK (H : Hp) : NestedKey → V → Prop
  | non : NK H .none .non
  | int (i : Int) : NK H (.num i) (.int i)
  | str (x : Str) : NK H (.text x) (.str x)
  | tup {a : Addr} {xs : List V} {ks : List NestedKey} : H a = some (.tup xs) → NKs H ks xs → NK H (.tup ks) (.ref a)
inductive NKs (H : Hp) : List NestedKey → List V → Prop
  | nil : NKs H [] []
  | cons {k : NestedKey} {v : V} {ks : List NestedKey} {vs : List V} : NK H k v → NKs H ks vs → NKs H (k :: ks) (v :: vs)
end
mutual
theorem NK.at {H H' : Hp} (t : ∀ a xs, H a = some (.tup xs) → H' a = some (.tup xs)) : ∀ {k : NestedKey} {v : V}, NK H k v → NK H' k v
  | _, _, .non => .non
  | _, _, .int i => .int i
  | _, _, .str x => .str x
  | _, _, .tup h r => .tup (t _ _ h) (NKs.at t r)
theorem NKs.at {H H' : Hp} (t : ∀ a xs, H a = some (.tup xs) → H' a = some (.tup xs)) : ∀ {ks : List NestedKey} {vs : List V}, NKs H ks vs → NKs H' ks vs
  | _, _, .nil => .nil
  | _, _, .cons h r => .cons (NK.at t h) (NKs.at t r)
end
mutual
theorem NK.is {P : Program} {w : World} {H : Hp} {h : Heap} (ok : HOk P w H h) : ∀ {k : NestedKey} {v : V} {u : Value}, NK H k v → RelV v u → NestedIs h k u
  | _, _, _, .non, r => by cases (show _ = Value.none from r); exact .none
  | _, _, _, .int i, r => by obtain ⟨t, rfl⟩ := (show ∃ t, _ = Value.int i t from r); exact .int i t
  | _, _, _, .str x, r => by obtain ⟨t, rfl⟩ := (show ∃ t, _ = Value.str x t from r); exact .text x t
  | _, _, _, .tup (a := a) (xs := xs) e q, r => by
    cases (show _ = Value.ref a from r)
    obtain ⟨_, its, rl, o, h1, h2, n, h3⟩ := (show ObjOk P w H h a (.tup xs) from ok a _ e)
    exact .tup h1 h2 h3 (by simpa using NKs.is ok q rl)
theorem NKs.is {P : Program} {w : World} {H : Hp} {h : Heap} (ok : HOk P w H h) : ∀ {ks : List NestedKey} {vs : List V} {us : List Value}, NKs H ks vs → Vals vs us → NestedAll h ks us
  | _, _, _, .nil, .nil => .nil
  | _, _, _, .cons x y, .cons r t => .cons (NK.is ok x r) (NKs.is ok y t)
end
abbrev RowX := NestedKey × V × V
/-- a key as these dicts have it: None or a tuple -/
structure KeyIn (H : Hp) (k : NestedKey) (v : V) : Prop where
  tell : NK H k v
  low : k.depth ≤ 8
  form : v = .non ∨ ∃ a, v = .ref a
theorem KeyIn.at {H H' : Hp} {k : NestedKey} {v : V} (x : KeyIn H k v) (t : ∀ a xs, H a = some (.tup xs) → H' a = some (.tup xs)) : KeyIn H' k v := ⟨x.tell.at t, x.low, x.form⟩
theorem KeyIn.same {H H' : Hp} {k : NestedKey} {v : V} (x : KeyIn H k v) (s : Same H H') : KeyIn H' k v := x.at fun a xs h => s a _ h
theorem KeyIn.is {P : Program} {w : World} {H : Hp} {h : Heap} {k : NestedKey} {v : V} {u : Value} (x : KeyIn H k v) (ok : HOk P w H h) (r : RelV v u) : Dx.KeyAt h k u := by
  refine ⟨x.tell.is ok r, x.low, ?_⟩
  rcases x.form with rfl | ⟨a, rfl⟩
  · exact .inl r
  · exact .inr ⟨a, r⟩
structure RowE (w : World) (r : RowX) (e : DictEntry) : Prop where
  hash : e.hash = r.1.hash w
  key : RelV r.2.1 e.key
  val : RelV r.2.2 e.val
def DX (w : World) (a : Addr) (rows : List RowX) : HO := .ext fun h => (a == sysModules) = false ∧ (rows.map (·.1)).Nodup ∧ ∃ o es ep, h.get? a = some o ∧ o.ExactDict ∧ o.data = .dict es ep ∧ Paired (RowE w) rows es.toList
/-- at a stands a dict with these rows -/
structure DXs (w : World) (H : Hp) (a : Addr) (rows : List RowX) : Prop where
  there : H a = some (DX w a rows)
  keys : ∀ r ∈ rows, KeyIn H r.1 r.2.1
theorem DXs.same {w : World} {H H' : Hp} {a : Addr} {rows : List RowX} (x : DXs w H a rows) (s : Same H H') : DXs w H' a rows := ⟨s a _ x.there, fun r hr => (x.keys r hr).same s⟩
theorem not_tup {w : World} {a : Addr} {rows : List RowX} {xs : List V} : DX w a rows ≠ .tup xs := fun z => by cases z
theorem upd_tups {w : World} {H : Hp} {a : Addr} {rows : List RowX} {o : HO} (h : H a = some (DX w a rows)) : ∀ b xs, H b = some (.tup xs) → upd H a o b = some (.tup xs) := fun b xs e => by
  have n : b ≠ a := fun z => by
    rw [z, h] at e
    exact not_tup (Option.some.inj e)
  rw [upd_ne n]
  exact e
/-- the value at a key -/
def valX (rows : List RowX) (k : NestedKey) : Option V := (Dx.place (rows.map (·.1)) k).bind fun i => rows[i]?.map (·.2.2)
def putX (rows : List RowX) (k : NestedKey) (y v : V) : List RowX := match Dx.place (rows.map (·.1)) k with
  | some i => rows.modify i fun r => (r.1, r.2.1, v)
  | none => rows ++ [(k, y, v)]
theorem valX_none {rows : List RowX} {k : NestedKey} : valX rows k = none ↔ k ∉ rows.map (·.1) := by
  unfold valX
  constructor
  · intro h hm
    cases hp : Dx.place (rows.map (·.1)) k with
    | none => exact Dx.place_none hp hm
    | some i =>
      rw [hp] at h
      have := Dx.place_ok hp
      rw [List.getElem?_map] at this
      cases hr : rows[i]? with
      | none => rw [hr] at this; cases this
      | some r => simp [hr] at h
  · intro h
    rw [Dx.place_no fun i hi => h (List.mem_of_getElem? hi)]
    rfl
theorem valX_isSome {rows : List RowX} {k : NestedKey} : (valX rows k).isSome = decide (k ∈ rows.map (·.1)) := by
  by_cases h : k ∈ rows.map (·.1)
  · rw [decide_eq_true h]
    cases e : valX rows k with
    | none => exact absurd h (valX_none.mp e)
    | some x => rfl
  · rw [decide_eq_false h, valX_none.mpr h]
    rfl
theorem putX_new {rows : List RowX} {k : NestedKey} {y v : V} (h : k ∉ rows.map (·.1)) : putX rows k y v = rows ++ [(k, y, v)] := by
  unfold putX
  rw [Dx.place_no fun i hi => h (List.mem_of_getElem? hi)]
theorem modify_keys {rows : List RowX} {i : Nat} {v : V} : (rows.modify i fun r => (r.1, r.2.1, v)).map (·.1) = rows.map (·.1) := by
  refine List.ext_getElem? fun j => ?_
  rw [List.getElem?_map, List.getElem?_map, List.getElem?_modify]
  cases rows[j]? with
  | none => rfl
  | some r =>
    by_cases c : i = j
    · simp [c]
    · simp [c]
theorem paired_get {α β : Type} {F : α → β → Prop} : ∀ {l : List α} {m : List β} {i : Nat}, Paired F l m → (l[i]? = none ∧ m[i]? = none) ∨ ∃ a b, l[i]? = some a ∧ m[i]? = some b ∧ F a b
  | _, _, _, .nil => .inl ⟨by simp, by simp⟩
  | _, _, 0, .cons h _ => .inr ⟨_, _, rfl, rfl, h⟩
  | _, _, i + 1, .cons _ t => by
    rcases paired_get (i := i) t with ⟨h1, h2⟩ | ⟨a, b, h1, h2, h3⟩
    · exact .inl ⟨by simpa using h1, by simpa using h2⟩
    · exact .inr ⟨a, b, by simpa using h1, by simpa using h2, h3⟩
theorem paired_modify {α β : Type} {F : α → β → Prop} {f : α → α} {g : β → β} (fg : ∀ a b, F a b → F (f a) (g b)) : ∀ {l : List α} {m : List β} (i : Nat), Paired F l m → Paired F (l.modify i f) (m.modify i g)
  | _, _, i, .nil => by cases i <;> exact .nil
  | _, _, 0, .cons h t => .cons (fg _ _ h) t
  | _, _, i + 1, .cons h t => .cons h (paired_modify fg i t)
section
variable {X : Cx} {pins : List (Addr × Obj)} {σ : L2.St} {H : Hp} {s : Shared} {a : Addr} {A : Around} {E : Value → Shared → Prop} {rows : List RowX} {k : NestedKey} {y v : V} {u r : Value} {P : Program} {w : World} {h : Heap}
theorem DXs.ents (D : DXs w H a rows) (ok : HOk P w H h) : (a == sysModules) = false ∧ ∃ es, Dx.DictE w h a es (rows.map (·.1)) ∧ Paired (RowE w) rows es.toList := by
  obtain ⟨⟨hd, nd, o, es, ep, h1, h2, h3, pr⟩, _, _⟩ := (show ObjOk P w H h a (DX w a rows) from ok a _ D.there)
  refine ⟨hd, es, ⟨o, ep, h1, h2, h3, ⟨by rw [List.length_map, Paired.length pr, Array.length_toList], fun i k hi => ?_, nd⟩⟩, pr⟩
  rw [List.getElem?_map] at hi
  rcases paired_get (i := i) pr with ⟨e1, _⟩ | ⟨r, e, e1, e2, e3⟩
  · rw [e1] at hi; cases hi
  · rw [e1] at hi
    cases hi
    exact ⟨e, by simpa using e2, e3.hash, (D.keys r (List.mem_of_getElem? e1)).is ok e3.key⟩
theorem got_rel {es : Array DictEntry} (pr : Paired (RowE w) rows es.toList) (k : NestedKey) : RelO (valX rows k) (Dx.gotE es (rows.map (·.1)) k) := by
  unfold valX Dx.gotE
  cases Dx.place (rows.map (·.1)) k with
  | none => trivial
  | some i =>
    show RelO (rows[i]?.map _) (es[i]?.map _)
    rw [← Array.getElem?_toList]
    rcases paired_get (i := i) pr with ⟨e1, e2⟩ | ⟨r, e, e1, e2, e3⟩
    · rw [e1, e2]; trivial
    · rw [e1, e2]; exact e3.val
theorem put_rel {es : Array DictEntry} (pr : Paired (RowE w) rows es.toList) (ry : RelV y u) (rv : RelV v r) : Paired (RowE w) (putX rows k y v) (Dx.putE w es (rows.map (·.1)) k u r).1.toList ∧ (putX rows k y v).map (·.1) = (Dx.putE w es (rows.map (·.1)) k u r).2 := by
  unfold putX Dx.putE
  cases Dx.place (rows.map (·.1)) k with
  | none =>
    refine ⟨?_, by rw [List.map_append]; rfl⟩
    show Paired _ _ (es.push _).toList
    rw [Array.toList_push]
    exact Paired.snoc pr ⟨rfl, ry, rv⟩
  | some i =>
    refine ⟨?_, modify_keys⟩
    show Paired _ _ (es.modify i _).toList
    rw [Array.toList_modify]
    exact paired_modify (fun x e z => ⟨z.hash, z.key, rv⟩) i pr
theorem putX_keys {x : RowX} (hx : x ∈ putX rows k y v) : x.1 = k ∧ x.2.1 = y ∨ ∃ z ∈ rows, z.1 = x.1 ∧ z.2.1 = x.2.1 := by
  unfold putX at hx
  cases hp : Dx.place (rows.map (·.1)) k with
  | none =>
    rw [hp] at hx
    rcases List.mem_append.mp hx with z | z
    · exact .inr ⟨x, z, rfl, rfl⟩
    · rw [List.mem_singleton.mp z]
      exact .inl ⟨rfl, rfl⟩
  | some i =>
    rw [hp] at hx
    obtain ⟨j, hj⟩ := List.getElem?_of_mem hx
    rw [List.getElem?_modify] at hj
    cases hr : rows[j]? with
    | none => rw [hr] at hj; cases hj
    | some z =>
      rw [hr] at hj
      refine .inr ⟨z, List.mem_of_getElem? hr, ?_⟩
      replace hj : (if i = j then (z.1, z.2.1, v) else z) = x := Option.some.inj hj
      by_cases c : i = j
      · rw [if_pos c] at hj
        rw [← hj]
        exact ⟨rfl, rfl⟩
      · rw [if_neg c] at hj
        rw [← hj]
        exact ⟨rfl, rfl⟩
theorem DXs.put (D : DXs w H a rows) (K : KeyIn H k y) : DXs w (upd H a (DX w a (putX rows k y v))) a (putX rows k y v) :=
  ⟨upd_same, fun x hx => by
    rcases putX_keys hx with ⟨e1, e2⟩ | ⟨z, hz, e1, e2⟩
    · rw [e1, e2]
      exact K.at (upd_tups D.there)
    · rw [← e1, ← e2]
      exact (D.keys z hz).at (upd_tups D.there)⟩
/-- y in d -/
theorem x_in {Q : Value → Shared → Prop} (hu : A.units + 65 < cLine) (I : Inv X pins σ H s) (D : DXs X.w H a rows) (K : KeyIn H k y) (ry : RelV y u) (h : ∀ s', Inv X pins σ H s' → Q (.bool (valX rows k).isSome) s') :
    wpAny (model X.prog X.w) A (compareOp .In u (.ref a)) Q E s := by
  obtain ⟨hd, es, dd, pr⟩ := D.ents I.hok
  refine Dx.has_k (k := k) (by omega) (K.is I.hok ry) hd dd ?_
  rw [← (got_rel pr k).isSome_eq]
  exact h _ (I.tok _)
/-- d[y] -/
theorem x_item {Q : Value → Shared → Prop} (hu : A.units + 65 < cLine) (I : Inv X pins σ H s) (D : DXs X.w H a rows) (K : KeyIn H k y) (ry : RelV y u) (g : valX rows k = some v) (h : ∀ w' s', Inv X pins σ H s' → RelV v w' → Q w' s') :
    wpAny (model X.prog X.w) A (getItem (.ref a) u) Q E s := by
  obtain ⟨hd, es, dd, pr⟩ := D.ents I.hok
  have q := got_rel pr k
  rw [g] at q
  obtain ⟨x, hx, rx⟩ := RelO.some_of q
  exact Dx.item_k (k := k) (by omega) (K.is I.hok ry) dd hx (h x _ (I.tok _) rx)
theorem x_new {es : Array DictEntry} {h' : Heap} (hd : (a == sysModules) = false) (pr : Paired (RowE w) rows es.toList) (dd : Dx.DictE w h' a es (rows.map (·.1))) : ObjOk P w H h' a (DX w a rows) := by
  obtain ⟨o, ep, h1, h2, h3, hE⟩ := dd
  exact ⟨⟨hd, hE.once, o, es, ep, h1, h2, h3, pr⟩, ⟨o, h1⟩, fun _ _ ⟨p1, p2, o, es, ep, q1, q2, q3, q4⟩ st => ⟨p1, p2, o, es, ep, st _ q1, q2, q3, q4⟩⟩
/-- d[y] = v -/
theorem x_setItem {Q : Unit → Shared → Prop} (hu : A.units + 65 < cLine) (I : Inv X pins σ H s) (D : DXs X.w H a rows) (K : KeyIn H k y) (hz : rows.length ≤ sizeLine) (ry : RelV y u) (rv : RelV v r) (h : ∀ s', Inv X pins σ (upd H a (DX X.w a (putX rows k y v))) s' → Q () s') :
    wpAny (model X.prog X.w) A (setItem (.ref a) u r) Q E s := by
  obtain ⟨hd, es, dd, pr⟩ := D.ents I.hok
  refine Dx.put_k (k := k) (by omega) (K.is I.hok ry) dd (by rw [← Array.length_toList, ← Paired.length pr]; exact hz) fun h' dd' sb => h _ ?_
  obtain ⟨p1, p2⟩ := put_rel (k := k) pr ry rv
  refine d_write I (by rw [D.there]; exact True.intro) sb (let ⟨o, _, h1, _⟩ := dd'; ⟨o, h1⟩) (x_new hd p1 ?_)
  rw [p2]
  exact dd'
theorem x_store {Q : Unit → Shared → Prop} (hu : A.units + 65 < cLine) (I : Inv X pins σ H s) (D : DXs X.w H a rows) (K : KeyIn H k y) (hz : rows.length ≤ sizeLine) (ry : RelV y u) (rv : RelV v r) (h : ∀ s', Inv X pins σ (upd H a (DX X.w a (putX rows k y v))) s' → Q () s') :
    wpAny (model X.prog X.w) A (dictSet a u r) Q E s := by
  obtain ⟨hd, es, dd, pr⟩ := D.ents I.hok
  refine Dx.store (k := k) (by omega) (K.is I.hok ry) dd (by rw [← Array.length_toList, ← Paired.length pr]; exact hz) fun h' dd' sb => h _ ?_
  obtain ⟨p1, p2⟩ := put_rel (k := k) pr ry rv
  refine d_write I (by rw [D.there]; exact True.intro) sb (let ⟨o, _, h1, _⟩ := dd'; ⟨o, h1⟩) (x_new hd p1 ?_)
  rw [p2]
  exact dd'
theorem x_typeIs (I : Inv X pins σ H s) (D : DXs X.w H a rows) : s.TypeIs (.ref a) "dict" := by
  obtain ⟨_, es, dd, _⟩ := D.ents I.hok
  exact dd.isDict
theorem x_empty (h : Heap) (hb : sysModules < h.objs.size) : ObjOk P w H (h.push { cls := .type "dict", data := .dict #[] }) h.objs.size (DX w h.objs.size []) :=
  ⟨⟨beq_eq_false_iff_ne.mpr (Ne.symm (Nat.ne_of_lt hb)), List.nodup_nil, _, #[], 0, Heap.get?_push_size _ rfl, ⟨rfl, rfl, rfl⟩, rfl, .nil⟩, ⟨_, Heap.get?_push_size _ rfl⟩, fun _ _ ⟨p1, p2, o, es, ep, q1, q2, q3, q4⟩ st => ⟨p1, p2, o, es, ep, st _ q1, q2, q3, q4⟩⟩
end
/-! readings and rules -/
def rInX (w : World) : V → V → Hp → VK → Prop := fun y x H Q => ∃ (a : Addr) (rows : List RowX) (k : NestedKey), x = .ref a ∧ DXs w H a rows ∧ KeyIn H k y ∧ Q (.bl (valX rows k).isSome) H
def tDGetX (w : World) (td ty : TE) : TE := fun σ H Q => td σ H fun x H1 => ty σ H1 fun y H2 => ∃ (a : Addr) (rows : List RowX) (k : NestedKey) (v : V), x = .ref a ∧ DXs w H2 a rows ∧ KeyIn H2 k y ∧ valX rows k = some v ∧ Q v H2
def sDPutX (w : World) (td ty tv : TE) : TS := fun D σ H => tv σ H fun v H1 => td σ H1 fun x H2 => ty σ H2 fun y H3 => ∃ (a : Addr) (rows : List RowX) (k : NestedKey), x = .ref a ∧ DXs w H3 a rows ∧ KeyIn H3 k y ∧ rows.length ≤ sizeLine ∧ D.nx σ (upd H3 a (DX w a (putX rows k y v)))
def tDNewX (w : World) : TE := fun _ H Q => ∀ p, H p = none → Q (.ref p) (upd H p (DX w p []))
/-- {y: v} -/
def tDOneX (w : World) (ty tv : TE) : TE := fun σ H Q => ∀ p, H p = none → ty σ (upd H p (DX w p [])) fun y H1 => tv σ H1 fun v H2 => H2 p = some (DX w p []) ∧ ∃ k : NestedKey, KeyIn H2 k y ∧ Q (.ref p) (upd H2 p (DX w p [(k, y, v)]))
section
variable {X : Cx} {o i e value : Expr} {pos pos' tpos : Pos} {td ty tv : TE} {w : World}
theorem op_inX (hw : X.w = w) (hu : X.A.units + 65 < cLine) : OpR X (compareOp .In) (rInX w) := by
  subst hw
  rintro pins s σ H y x u r Q I ry rx ⟨a, rows, k, rfl, D, K, q⟩
  cases (show r = Value.ref a from rx)
  exact x_in hu I D K ry fun s' I' => ⟨.bl (valX rows k).isSome, H, I', rfl, q⟩
theorem pe_dgetX (hw : X.w = w) (hu : X.A.units + 65 < cLine) (ho : PE X o td) (hi : PE X i ty) (hs : NoSl i) : PE X (.Subscript o i pos) (tDGetX w td ty) := by
  subst hw
  refine ⟨fun pins s σ H Q I h => ?_⟩
  refine subD_of PySem.F.slot_dict_getitem.lookup hs (thn (ho.run pins s σ H _ I h) fun u s1 ⟨x, H1, I1, rx, q1⟩ => thn (hi.run pins s1 σ H1 _ I1 q1) fun iv s2 ⟨y, H2, I2, ry, a, rows, k, v, ex, D, K, g, q2⟩ => ?_)
  subst ex
  obtain rfl : u = Value.ref a := rx
  exact ⟨x_typeIs I2 D, x_item hu I2 D K ry g fun w' s3 I3 rw' => ⟨v, H2, I3, rw', q2⟩⟩
theorem ps_dputX (hw : X.w = w) (hu : X.A.units + 65 < cLine) (ho : PE X o td) (hi : PE X i ty) (hv : PE X value tv) (hs : swapsWith value (some (.Subscript o i pos')) pos.line X.env = pure false) :
    PS X (.Assign [.Subscript o i pos'] value pos) (sDPutX w td ty tv) := by
  subst hw
  refine ⟨fun pins s σ H D I h => ?_⟩
  refine wpAny_Assign_Subscript (thn (hv.run pins s σ H _ I h) fun r s1 ⟨v, H1, I1, rv, q1⟩ => thn (ho.run pins s1 σ H1 _ I1 q1) fun u s2 ⟨x, H2, I2, rx, q2⟩ => thn (hi.run pins s2 σ H2 _ I2 q2) fun iv s3 ⟨y, H3, I3, ry, a, rows, k, ex, g, K, hz, q3⟩ => ?_) hs
  subst ex
  obtain rfl : u = Value.ref a := rx
  exact x_setItem hu I3 g K hz ry rv fun s4 I4 => ⟨σ, _, I4, q3⟩
theorem pe_dnewX (hw : X.w = w) : PE X (.Dict [] [] pos) (tDNewX w) := by
  subst hw
  exact ⟨fun pins s σ H Q I h => wpAny_Dict_empty ⟨.ref s.heap.objs.size, _, I.laid (a := s.heap.objs.size) (o := DX X.w s.heap.objs.size []) (t' := s.toks) (fun _ _ q => Heap.get?_push_of_some _ q) (Nat.le_refl _) (x_empty s.heap I.big), rfl, h _ (I.hok.fresh (Nat.le_refl _))⟩⟩
theorem pe_doneX (hw : X.w = w) (hu : X.A.units + 65 < cLine) (hk : PE X i ty) (hv : PE X value tv) : PE X (.Dict [some i] [value] pos) (tDOneX w ty tv) := by
  subst hw
  refine ⟨fun pins s σ H Q I q => ?_⟩
  have hn := I.hok.fresh (Nat.le_refl s.heap.objs.size)
  have I1 := I.laid (a := s.heap.objs.size) (o := DX X.w s.heap.objs.size []) (h' := s.heap.push { cls := .type "dict", data := .dict #[] }) (t' := s.toks) (fun _ _ q => Heap.get?_push_of_some _ q) (Nat.le_refl _) (x_empty s.heap I.big)
  refine wpAny_Dict_any rfl rfl (fun z => by cases z) (show 1 ≤ 15 by decide) (pairTrees_cons_walk (thn (hk.run pins _ σ _ _ I1 (q _ hn)) fun u s1 ⟨y, H1, I1, ry, q1⟩ => thn (hv.run pins s1 σ H1 _ I1 q1) fun r s2 ⟨v, H2, I2, rv, e, k, K, q2⟩ => pairTrees_nil_walk ?_))
  unfold storeAll
  rw [List.forIn_cons]
  refine wpAny_bind (wpAny_bind (x_store hu I2 ⟨e, fun r hr => by cases hr⟩ K (Nat.zero_le _) ry rv fun s3 I3 => wpAny_pure ?_))
  show wpAny _ _ (forIn [] PUnit.unit _) _ _ _
  rw [List.forIn_nil]
  exact wpAny_pure ⟨.ref s.heap.objs.size, _, I3, rfl, q2⟩
end
end UP

set_option Elab.async false
set_option linter.all false
set_option maxRecDepth 100000
set_option maxHeartbeats 4000000
set_option pp.maxSteps 600
namespace UP
open PySem PySem.Spec PyProof.Rows L2
/-! ### what one item does with two states -/
theorem kd_some (r : Run) (k : Str) : kdV (some r) ≠ .str k ↔ r.1 ≠ k := ⟨fun h e => h (by show V.str r.1 = V.str k; rw [e]), fun h e => h (V.str.inj e)⟩
theorem kd_none (k : Str) : kdV none ≠ .str k := fun z => by cases z
/-- up: the kind is x, or nobody waits; down: the other kind's number falls -/
inductive StepR (a : Option Run) (x : Str) : Prop where
  | up (n : Int) (h : stepR a x 1 = some (x, n + 1)) (na : numR a = n) (n0 : 0 ≤ n) (k : a = none ∨ a = some (x, n)) : StepR a x
  | down (i : Str) (n : Int) (h : stepR a x 1 = none ∧ n = 0 ∨ stepR a x 1 = some (i, n) ∧ 0 < n) (e : a = some (i, n + 1)) (ne : i ≠ x) : StepR a x
theorem step_is {a : Option Run} {x : Str} (pa : PosO a) : StepR a x := by
  cases a with
  | none => exact .up 0 rfl rfl (Int.le_refl _) (.inl rfl)
  | some r =>
    have r1 := pa r rfl
    rcases step_cases (r := r) (k := x) (c := 1) with ⟨e, s⟩ | ⟨e, l, s⟩ | ⟨e, l, s⟩ | ⟨e, l, s⟩
    · exact .up r.2 (by rw [s]) rfl (by omega) (.inr (by rw [← e]))
    · exact .down r.1 (r.2 - 1) (.inr ⟨s, by omega⟩) (by rw [show r.2 - 1 + 1 = r.2 by omega]) e
    · exact .down r.1 (r.2 - 1) (.inl ⟨s, by omega⟩) (by rw [show r.2 - 1 + 1 = r.2 by omega]) e
    · omega
theorem kd_up {x : Str} {a : Option Run} {n : Int} (h : a = none ∨ a = some (x, n)) {k : Str} (ne : x ≠ k) : kdV a ≠ .str k := by
  rcases h with h | h
  · rw [h]
    exact kd_none k
  · rw [h]
    exact (kd_some _ _).mpr ne
/-- who can meet behind an item can meet -/
theorem can_backU {ks : List Str} {a b : Option Run} {x i j : Str} {n m : Int} (hx : x ∈ ks) (ha : a = none ∨ a = some (x, n)) (na : numR a = n) (n0 : 0 ≤ n) (eb : b = some (j, m + 1)) (jx : j ≠ x) (m0 : 0 ≤ m)
    {B : Option Run} (hB : B = none ∧ m = 0 ∨ B = some (j, m) ∧ 0 < m) (c : CanM ks (some (x, n + 1)) B) : CanM ks a b := by
  obtain ⟨ev, c⟩ := c
  have nB : numR B = m := by
    rcases hB with ⟨h, z⟩ | ⟨h, _⟩
    · rw [h, z]
      rfl
    · rw [h]
      rfl
  have nA : numR (some (x, n + 1)) = n + 1 := rfl
  have nb : numR b = m + 1 := by rw [eb]; rfl
  rw [nA, nB] at ev c
  have kB : ∀ k, 0 < m → kdV B ≠ .str k → j ≠ k := fun k m1 h => by
    rcases hB with ⟨_, z⟩ | ⟨h', _⟩
    · omega
    · rw [h'] at h
      exact (kd_some _ _).mp h
  have kb : ∀ k, j ≠ k → kdV b ≠ .str k := fun k h => by
    rw [eb]
    exact (kd_some _ _).mpr h
  have ka : ∀ k, x ≠ k → kdV a ≠ .str k := fun k h => kd_up ha h
  refine ⟨by rw [na, nb]; omega, ?_⟩
  rw [na, nb]
  rcases c with ⟨e, k, hk, h1, h2⟩ | ⟨l, k1, hk1, k2, hk2, n12, h1, h2⟩ | ⟨l, k1, hk1, k2, hk2, n12, h1, h2⟩
  · have xk := (kd_some _ _).mp h1
    exact .inr (.inr ⟨by omega, x, hx, k, hk, xk, kb x jx, kb k (kB k (by omega) h2)⟩)
  · have x1 := (kd_some _ _).mp h1
    have x2 := (kd_some _ _).mp h2
    have x1 : x ≠ k1 := x1
    have x2 : x ≠ k2 := x2
    by_cases e : n = m + 1
    · refine .inl ⟨e, ?_⟩
      by_cases z : j = k1
      · exact ⟨k2, hk2, ka k2 x2, kb k2 fun y => n12 (z.symm.trans y)⟩
      · exact ⟨k1, hk1, ka k1 x1, kb k1 z⟩
    · exact .inr (.inl ⟨by omega, k1, hk1, k2, hk2, n12, ka k1 x1, ka k2 x2⟩)
  · exact .inr (.inr ⟨by omega, k1, hk1, k2, hk2, n12, kb k1 (kB k1 (by omega) h1), kb k2 (kB k2 (by omega) h2)⟩)
theorem can_back {ks : List Str} {a b : Option Run} {x : Str} (pa : PosO a) (pb : PosO b) (hx : x ∈ ks) (ne : a ≠ b) (c : CanM ks (stepR a x 1) (stepR b x 1)) : CanM ks a b := by
  have pos : ∀ {s : Option Run} {i : Str} {n : Int}, PosO s → s = some (i, n + 1) → 0 ≤ n := fun {s i n} p e => by
    have h := p _ e
    have h : (1 : Int) ≤ n + 1 := h
    omega
  cases step_is (x := x) pa with
  | up n h na n0 ka =>
    cases step_is (x := x) pb with
    | up m h' nb m0 kb =>
      rw [h, h'] at c
      obtain ⟨ev, c⟩ := c
      have ev : (n + 1 - (m + 1)) % 2 = 0 := ev
      refine ⟨by rw [na, nb]; omega, ?_⟩
      rw [na, nb]
      rcases c with ⟨e, _⟩ | ⟨l, k1, hk1, k2, hk2, n12, h1, h2⟩ | ⟨l, k1, hk1, k2, hk2, n12, h1, h2⟩
      · have e : n + 1 = m + 1 := e
        exfalso
        have e : n = m := by omega
        subst e
        rcases ka with z | z <;> rcases kb with y | y
        · exact ne (z.trans y.symm)
        · have h1 := pb _ y
          have h1 : 1 ≤ n := h1
          rw [z] at na
          have na : (0 : Int) = n := na
          omega
        · have h1 := pa _ z
          have h1 : 1 ≤ n := h1
          rw [y] at nb
          have nb : (0 : Int) = n := nb
          omega
        · exact ne (z.trans y.symm)
      · have l : m + 1 < n + 1 := l
        exact .inr (.inl ⟨by omega, k1, hk1, k2, hk2, n12, kd_up ka ((kd_some _ _).mp h1), kd_up ka ((kd_some _ _).mp h2)⟩)
      · have l : n + 1 < m + 1 := l
        exact .inr (.inr ⟨by omega, k1, hk1, k2, hk2, n12, kd_up kb ((kd_some _ _).mp h1), kd_up kb ((kd_some _ _).mp h2)⟩)
    | down j m h' e' jx =>
      rw [h] at c
      exact can_backU (i := x) hx ka na n0 e' jx (pos pb e') h' c
  | down i n h e ix =>
    cases step_is (x := x) pb with
    | up m h' nb m0 kb =>
      rw [h'] at c
      exact can_comm (can_backU (i := x) hx kb nb m0 e ix (pos pa e) h (can_comm c))
    | down j m h' e' jx =>
      have n0 := pos pa e
      have m0 := pos pb e'
      have nA : numR (stepR a x 1) = n := by
        rcases h with ⟨h, z⟩ | ⟨h, _⟩
        · rw [h, z]; rfl
        · rw [h]; rfl
      have nB : numR (stepR b x 1) = m := by
        rcases h' with ⟨h, z⟩ | ⟨h, _⟩
        · rw [h, z]; rfl
        · rw [h]; rfl
      obtain ⟨ev, c⟩ := c
      rw [nA, nB] at ev c
      have na : numR a = n + 1 := by rw [e]; rfl
      have nb : numR b = m + 1 := by rw [e']; rfl
      have ka : ∀ k, i ≠ k → kdV a ≠ .str k := fun k z => by rw [e]; exact (kd_some _ _).mpr z
      have kb : ∀ k, j ≠ k → kdV b ≠ .str k := fun k z => by rw [e']; exact (kd_some _ _).mpr z
      have kA : ∀ k, 0 < n → kdV (stepR a x 1) ≠ .str k → i ≠ k := fun k n1 z => by
        rcases h with ⟨_, y⟩ | ⟨h, _⟩
        · omega
        · rw [h] at z
          exact (kd_some _ _).mp z
      have kB : ∀ k, 0 < m → kdV (stepR b x 1) ≠ .str k → j ≠ k := fun k n1 z => by
        rcases h' with ⟨_, y⟩ | ⟨h, _⟩
        · omega
        · rw [h] at z
          exact (kd_some _ _).mp z
      refine ⟨by rw [na, nb]; omega, ?_⟩
      rw [na, nb]
      rcases c with ⟨e1, _⟩ | ⟨l, k1, hk1, k2, hk2, n12, h1, h2⟩ | ⟨l, k1, hk1, k2, hk2, n12, h1, h2⟩
      · exact .inl ⟨by omega, x, hx, ka x ix, kb x jx⟩
      · exact .inr (.inl ⟨by omega, k1, hk1, k2, hk2, n12, ka k1 (kA k1 (by omega) h1), ka k2 (kA k2 (by omega) h2)⟩)
      · exact .inr (.inr ⟨by omega, k1, hk1, k2, hk2, n12, kb k1 (kB k1 (by omega) h1), kb k2 (kB k2 (by omega) h2)⟩)
/-- two states that one item makes the same have one item left each -/
theorem meet_step {a b : Option Run} {x : Str} (pa : PosO a) (pb : PosO b) (ne : a ≠ b) (e : stepR a x 1 = stepR b x 1) : numR a = 1 ∧ numR b = 1 ∧ kdV a ≠ .str x ∧ kdV b ≠ .str x := by
  have pos : ∀ {s : Option Run} {i : Str} {n : Int}, PosO s → s = some (i, n + 1) → 0 ≤ n := fun {s i n} p e => by
    have h := p _ e
    have h : (1 : Int) ≤ n + 1 := h
    omega
  cases step_is (x := x) pa with
  | up n h na n0 ka =>
    cases step_is (x := x) pb with
    | up m h' nb m0 kb =>
      exfalso
      rw [h, h'] at e
      have e : n + 1 = m + 1 := congrArg Prod.snd (Option.some.inj e)
      have e : n = m := by omega
      subst e
      rcases ka with z | z <;> rcases kb with y | y
      · exact ne (z.trans y.symm)
      · have h1 := pb _ y
        have h1 : 1 ≤ n := h1
        rw [z] at na
        have na : (0 : Int) = n := na
        omega
      · have h1 := pa _ z
        have h1 : 1 ≤ n := h1
        rw [y] at nb
        have nb : (0 : Int) = n := nb
        omega
      · exact ne (z.trans y.symm)
    | down j m h' e' jx =>
      exfalso
      rw [h] at e
      rcases h' with ⟨h', _⟩ | ⟨h', _⟩
      · rw [h'] at e; cases e
      · rw [h'] at e
        have e : x = j := congrArg Prod.fst (Option.some.inj e)
        exact jx e.symm
  | down i n h ea ix =>
    cases step_is (x := x) pb with
    | up m h' nb m0 kb =>
      exfalso
      rw [h'] at e
      rcases h with ⟨h, _⟩ | ⟨h, _⟩
      · rw [h] at e; cases e
      · rw [h] at e
        have e : i = x := congrArg Prod.fst (Option.some.inj e)
        exact ix e
    | down j m h' eb jx =>
      have n0 := pos pa ea
      have m0 := pos pb eb
      rcases h with ⟨h, z⟩ | ⟨h, z⟩ <;> rcases h' with ⟨h', z'⟩ | ⟨h', z'⟩
      · rw [ea, eb, z, z']
        exact ⟨rfl, rfl, (kd_some _ _).mpr ix, (kd_some _ _).mpr jx⟩
      · rw [h, h'] at e; cases e
      · rw [h, h'] at e; cases e
      · exfalso
        rw [h, h'] at e
        have e := Option.some.inj e
        rw [ea, eb] at ne
        refine ne ?_
        have e1 : i = j := congrArg Prod.fst e
        have e2 : n = m := congrArg Prod.snd e
        rw [e1, e2]
/-- who can't meet does not -/
theorem never {ks : List Str} : ∀ {l : List Str} {a b : Option Run}, PosO a → PosO b → (∀ x ∈ l, x ∈ ks) → a ≠ b → ¬ CanM ks a b → stI l a ≠ stI l b
  | [], _, _, _, _, _, ne, _ => ne
  | x :: l, a, b, pa, pb, hl, ne, no => by
    show stI l (stepR a x 1) ≠ stI l (stepR b x 1)
    have hx := hl x (List.mem_cons_self ..)
    by_cases e : stepR a x 1 = stepR b x 1
    · exfalso
      obtain ⟨h1, h2, h3, h4⟩ := meet_step pa pb ne e
      exact no ⟨by rw [h1, h2]; rfl, .inl ⟨by rw [h1, h2], x, hx, h3, h4⟩⟩
    · exact never (stepR_pos pa (by decide)) (stepR_pos pb (by decide)) (fun y hy => hl y (List.mem_cons_of_mem _ hy)) e fun c => no (can_back pa pb hx ne c)
theorem num_step {a : Option Run} {x : Str} (pa : PosO a) : numR a ≤ numR (stepR a x 1) + 1 ∧ numR (stepR a x 1) ≤ numR a + 1 := by
  cases step_is (x := x) pa with
  | up n h na n0 ka =>
    rw [h, na]
    exact ⟨by show n ≤ n + 1 + 1; omega, Int.le_refl _⟩
  | down i n h e ix =>
    have ea : numR a = n + 1 := by rw [e]; rfl
    rw [ea]
    rcases h with ⟨h, z⟩ | ⟨h, _⟩
    · rw [h, z]
      exact ⟨by decide, by decide⟩
    · rw [h]
      exact ⟨Int.le_refl _, by show n ≤ n + 1 + 1; omega⟩
/-- nobody meets before the greater number has gone -/
theorem not_soon : ∀ {l : List Str} {a b : Option Run}, PosO a → PosO b → a ≠ b → (l.length : Int) < mxR a b → stI l a ≠ stI l b
  | [], _, _, _, _, ne, _ => ne
  | x :: l, a, b, pa, pb, ne, lt => by
    show stI l (stepR a x 1) ≠ stI l (stepR b x 1)
    rw [List.length_cons] at lt
    by_cases e : stepR a x 1 = stepR b x 1
    · exfalso
      obtain ⟨h1, h2, _, _⟩ := meet_step pa pb ne e
      unfold mxR at lt
      rw [h1, h2] at lt
      have lt : ((l.length + 1 : Nat) : Int) < 1 := lt
      omega
    · refine not_soon (stepR_pos pa (by decide)) (stepR_pos pb (by decide)) e ?_
      have h1 := (num_step (x := x) pa).1
      have h2 := (num_step (x := x) pb).1
      unfold mxR at lt ⊢
      split at lt <;> split <;> omega
/-- who can meet does, when the greater number has gone -/
theorem can_meet {ks : List Str} {a b : Option Run} (pa : PosO a) (pb : PosO b) (ne : a ≠ b) (c : CanM ks a b) : ∃ l : List Str, (∀ x ∈ l, x ∈ ks) ∧ (l.length : Int) = mxR a b ∧ stI l a = none ∧ stI l b = none := by
  have fin : (∃ rs, MeetOk ks a b rs) → ∃ l : List Str, (∀ x ∈ l, x ∈ ks) ∧ (l.length : Int) = mxR a b ∧ stI l a = none ∧ stI l b = none := by
    rintro ⟨rs, m⟩
    have pos : ∀ r ∈ rs, 1 ≤ r.2 := fun r hr => (m.1 r hr).2
    refine ⟨itR rs, fun x hx => ?_, by rw [len_it rs pos, m.2.2.2.1], by rw [← st_items rs a pa pos, m.2.2.2.2.1], by rw [← st_items rs b pb pos, m.2.2.2.2.2.1]⟩
    obtain ⟨r, hr, hk⟩ := List.mem_flatMap.mp hx
    rw [List.eq_of_mem_replicate hk]
    exact (m.1 r hr).1
  have two : ∀ {a b : Option Run}, PosO a → PosO b → numR b < numR a → (numR a - numR b) % 2 = 0 → TwoK ks a → ∃ rs, MeetOk ks a b rs := by
    rintro a b pa pb lt ev ⟨k1, hk1, k2, hk2, n12, h1, h2⟩
    by_cases z : kdV b = .str k1
    · exact ⟨_, meet_two pa pb lt ev hk2 hk1 h2 (fun y => n12 (by rw [z] at y; exact V.str.inj y)) h1 (fun y => n12 y.symm)⟩
    · exact ⟨_, meet_two pa pb lt ev hk1 hk2 h1 z h2 n12⟩
  obtain ⟨ev, c⟩ := c
  refine fin ?_
  rcases c with ⟨e, k, hk, h1, h2⟩ | ⟨l, t⟩ | ⟨l, t⟩
  · exact ⟨_, meet_one pa pb ne e hk h1 h2⟩
  · exact two pa pb l ev t
  · obtain ⟨rs, m⟩ := two pb pa l (by omega) t
    exact ⟨rs, meet_comm m⟩
end UP

set_option Elab.async false
set_option linter.all false
set_option maxRecDepth 100000
set_option maxHeartbeats 4000000
set_option pp.maxSteps 600
namespace UP.Dx
open PySem
open Sem (wp)
section
variable {prog : Program} {w : World} {A : Around} {E : Value → Shared → Prop} {s : Shared} {d : Addr} {v : Value} {o : Obj} {es : Array DictEntry} {ep : Nat} {ks : List NestedKey} {k : NestedKey}
/-- k not in d -/
theorem has_no {Q : Value → Shared → Prop} (hu : A.units + 1 + 8 < cLine) (hk : KeyAt s.heap k v) (nm : (d == sysModules) = false) (D : DictE w s.heap d es ks) (q : Q (.bool (!(gotE es ks k).isSome)) { s with toks := s.toks + k.draws }) :
    wpAny (model prog w) A (compareOp .NotIn v (.ref d)) Q E s := by
  show wpAny _ _ (do return .bool (!(← contains (.ref d) v))) Q E s
  refine wpAny_bind (wpAny_contains_slot D.isDict F.slot_dict_contains (call_meetsIn F.slot_dict_contains D.isDict F.entry_dict_contains (F.args_dict_contains_2 _ _) (S := fun B R t => B = A ∧ t = s ∧ R (.ok (.ret (.bool (gotE es ks k).isSome))) { s with toks := s.toks + k.draws }) (fun B R t hS => ?_) ⟨rfl, rfl, wpAny_truthy_bool (wpAny_pure q)⟩))
  obtain ⟨rfl, rfl, hR⟩ := hS
  show wpAny _ _ (dictGet d v >>= _) _ _ _
  refine wpAny_bind (look (A := B.in1) hu hk D ?_)
  cases hg : gotE es ks k with
  | some x =>
    rw [hg] at hR
    show wpAny _ _ (ret (.bool true)) _ _ _
    exact wpAny_pure hR
  | none =>
    rw [hg] at hR
    show wpAny _ _ (Builtin.Dict.pendingKey? d v >>= _) _ _ _
    exact wpAny_bind (wpAny_pendingKey_other nm (wpAny_pure hR))
end
end UP.Dx
namespace UP
open PySem PySem.Spec PyProof.Rows L2
theorem op_eqDK {X : Cx} {K : PySem.W.Frag} (hK : X.K = K) (hu : X.A.units + 64 < cLine) : OpR X (compareOp .Eq) (rEqD K) := by
  subst hK
  exact op_eqD hu
def rNotInX (w : World) : V → V → Hp → VK → Prop := fun y x H Q => ∃ (a : Addr) (rows : List RowX) (k : NestedKey), x = .ref a ∧ DXs w H a rows ∧ KeyIn H k y ∧ Q (.bl (!(valX rows k).isSome)) H
theorem op_notInX {X : Cx} {w : World} (hw : X.w = w) (hu : X.A.units + 65 < cLine) : OpR X (compareOp .NotIn) (rNotInX w) := by
  subst hw
  rintro pins s σ H y x u r Q I ry rx ⟨a, rows, k, rfl, D, K, q⟩
  cases (show r = Value.ref a from rx)
  obtain ⟨hd, es, dd, pr⟩ := D.ents I.hok
  refine Dx.has_no (k := k) (by omega) (K.is I.hok ry) hd dd ?_
  rw [← (got_rel pr k).isSome_eq]
  exact ⟨.bl (!(valX rows k).isSome), H, I.tok _, rfl, q⟩
theorem room65 {A : Around} {k : Nat} (hr : Room k A) : A.units + 65 < cLine := by
  have := hr.un
  omega
theorem nodup_subR {α : Type} [DecidableEq α] : ∀ (l B : List α), l.Nodup → (∀ x ∈ l, x ∈ B) → l.length ≤ B.length
  | [], _, _, _ => Nat.zero_le _
  | x :: l, B, nd, sub => by
    obtain ⟨n1, n2⟩ := List.nodup_cons.mp nd
    have hx := sub x List.mem_cons_self
    have h1 := nodup_subR l (B.erase x) n2 fun y hy => (List.mem_erase_of_ne (fun e => n1 (by rw [← e]; exact hy))).mpr (sub y (List.mem_cons_of_mem _ hy))
    have h2 := List.length_erase_of_mem hx
    have h3 := List.length_pos_of_mem hx
    rw [List.length_cons]
    omega
/-- the states with few waiting items of these kinds -/
def boxR (ks : List Str) (m : Nat) : List (Option Run) := none :: ks.flatMap fun k => (List.range m).map fun (i : Nat) => (some (k, (i : Int) + 1) : Option Run)
theorem box_len (ks : List Str) (m : Nat) : (boxR ks m).length = 1 + ks.length * m := by
  unfold boxR
  rw [List.length_cons]
  have : (ks.flatMap fun k => (List.range m).map fun (i : Nat) => (some (k, (i : Int) + 1) : Option Run)).length = ks.length * m := by
    induction ks with
    | nil => simp
    | cons k t ih => rw [List.flatMap_cons, List.length_append, ih, List.length_map, List.length_range, List.length_cons, Nat.add_mul, Nat.one_mul, Nat.add_comm]
  omega
theorem box_mem {ks : List Str} {m : Nat} {s : Option Run} (h : ∀ r, s = some r → r.1 ∈ ks ∧ 1 ≤ r.2 ∧ r.2 ≤ (m : Int)) : s ∈ boxR ks m := by
  cases s with
  | none => exact List.mem_cons_self ..
  | some r =>
    obtain ⟨h1, h2, h3⟩ := h r rfl
    refine List.mem_cons_of_mem _ (List.mem_flatMap.mpr ⟨r.1, h1, List.mem_map.mpr ⟨(r.2 - 1).toNat, List.mem_range.mpr (by omega), ?_⟩⟩)
    rw [show (((r.2 - 1).toNat : Nat) : Int) + 1 = r.2 by omega]
/-- what a round of few items does to a state: its kind and its number -/
theorem stI_box {ks : List Str} : ∀ (l : List Str) (s : Option Run) (m : Int), (∀ x ∈ l, x ∈ ks) → PosO s → (∀ r, s = some r → r.1 ∈ ks ∧ r.2 ≤ m) → 0 ≤ m → ∀ r, stI l s = some r → r.1 ∈ ks ∧ r.2 ≤ m + (l.length : Int)
  | [], s, m, _, _, h, m0 => fun r e => by
    have := h r e
    exact ⟨this.1, by show r.2 ≤ m + 0; omega⟩
  | x :: t, s, m, hk, hp, h, m0 => fun r e => by
    have hx := hk x (List.mem_cons_self ..)
    have := stI_box t (stepR s x 1) (m + 1) (fun y hy => hk y (List.mem_cons_of_mem _ hy)) (stepR_pos hp (by decide)) (fun q eq => by
      cases s with
      | none =>
        cases eq
        exact ⟨hx, by show (1 : Int) ≤ m + 1; omega⟩
      | some p =>
        obtain ⟨p1, p2⟩ := h p rfl
        have p3 := hp p rfl
        by_cases c : p.1 = x
        · rw [step_same c] at eq
          cases eq
          exact ⟨hx, by show p.2 + 1 ≤ m + 1; omega⟩
        · rw [step_other c] at eq
          split at eq
          · cases eq
            exact ⟨p1, by show p.2 - 1 ≤ m + 1; omega⟩
          · split at eq
            · cases eq
            · cases eq
              exact ⟨hx, by show -(p.2 - 1) ≤ m + 1; omega⟩) (by omega) r e
    refine ⟨this.1, ?_⟩
    have h2 := this.2
    rw [List.length_cons]
    omega
def keyR : Option Run → NestedKey
  | none => .none
  | some r => .tup [.text r.1, .num r.2]
theorem keyR_inj {a b : Option Run} (h : keyR a = keyR b) : a = b := by
  cases a with
  | none => cases b with
    | none => rfl
    | some s => cases h
  | some r => cases b with
    | none => cases h
    | some s =>
      obtain ⟨r1, r2⟩ := r
      obtain ⟨s1, s2⟩ := s
      simp only [keyR, NestedKey.tup.injEq, List.cons.injEq, NestedKey.text.injEq, NestedKey.num.injEq] at h
      rw [h.1, h.2.1]
theorem key_st {H : Hp} {v : V} {st : Option Run} (h : StV H v st) : KeyIn H (keyR st) v := by
  cases st with
  | none =>
    cases h
    exact ⟨.non, by decide, .inl rfl⟩
  | some r =>
    obtain ⟨t, rfl, ht⟩ := h
    exact ⟨.tup ht (.cons (.str _) (.cons (.int _) .nil)), by show NestedKey.depth (.tup [.text r.1, .num r.2]) ≤ 8; simp [NestedKey.depth, NestedKey.depthAll], .inr ⟨t, rfl⟩⟩
/-- all but two objects stay -/
def But2 (p d : Addr) (H H' : Hp) : Prop := ∀ b o, b ≠ p → b ≠ d → H b = some o → H' b = some o
theorem But2.trans {p d : Addr} {H H1 H2 : Hp} (a : But2 p d H H1) (b : But2 p d H1 H2) : But2 p d H H2 := fun c o n1 n2 h => b c o n1 n2 (a c o n1 n2 h)
theorem But2.of {p d : Addr} {H H' : Hp} (s : Same H H') : But2 p d H H' := fun c o _ _ h => s c o h
theorem But2.p {p d : Addr} {H : Hp} {o : HO} : But2 p d H (upd H p o) := fun c u n1 _ h => by rw [upd_ne n1]; exact h
theorem But2.d {p d : Addr} {H : Hp} {o : HO} : But2 p d H (upd H d o) := fun c u _ n2 h => by rw [upd_ne n2]; exact h
/-- neither of the two is a tuple -/
def NoTup (H : Hp) (p : Addr) : Prop := ∀ xs, H p ≠ some (.tup xs)
theorem StV.but2 {p d : Addr} {H H' : Hp} {v : V} {st : Option Run} (b : But2 p d H H') (np : NoTup H p) (nd : NoTup H d) (h : StV H v st) : StV H' v st := by
  cases st with
  | none => exact h
  | some r =>
    obtain ⟨t, rfl, ht⟩ := h
    exact ⟨t, rfl, b _ _ (fun z => np _ (z ▸ ht)) (fun z => nd _ (z ▸ ht)) ht⟩
theorem sts_but2 {p d : Addr} {H H' : Hp} {xs : List V} {l : List (Option Run)} (b : But2 p d H H') (np : NoTup H p) (nd : NoTup H d) (h : Paired (StV H) xs l) : Paired (StV H') xs l := Paired.imp (fun _ _ => StV.but2 b np nd) h
theorem noTup_lst {H : Hp} {p : Addr} {xs : List V} (h : H p = some (.lst xs)) : NoTup H p := fun ys z => by rw [h] at z; cases z
theorem noTup_dx {w : World} {H : Hp} {p : Addr} {rows : List RowX} (h : H p = some (DX w p rows)) : NoTup H p := fun ys z => by rw [h] at z; cases z
/-! ### searching moment by moment -/
abbrev PP := Option Run × Option Run
def stepP (p : PP) (x : Str) : PP := (stepR p.1 x 1, stepR p.2 x 1)
/-- the pair p is reached by n items -/
def Rch (ks : List Str) (a b : Option Run) (n : Nat) (p : PP) : Prop := ∃ l : List Str, l.length = n ∧ (∀ x ∈ l, x ∈ ks) ∧ p = (stI l a, stI l b)
theorem stI_snocP (l : List Str) (x : Str) (s : Option Run) : stI (l ++ [x]) s = stepR (stI l s) x 1 := by
  unfold stI
  rw [List.foldl_append]
  rfl
theorem Rch.step {ks : List Str} {a b : Option Run} {n : Nat} {p : PP} {x : Str} (h : Rch ks a b n p) (hx : x ∈ ks) : Rch ks a b (n + 1) (stepP p x) := by
  obtain ⟨l, e, hl, rfl⟩ := h
  refine ⟨l ++ [x], by rw [List.length_append, e]; rfl, fun y hy => ?_, ?_⟩
  · rcases List.mem_append.mp hy with z | z
    · exact hl y z
    · rw [List.mem_singleton.mp z]
      exact hx
  · rw [stI_snocP, stI_snocP]
    rfl
theorem Rch.pred {ks : List Str} {a b : Option Run} {n : Nat} {p : PP} (h : Rch ks a b (n + 1) p) : ∃ q x, Rch ks a b n q ∧ x ∈ ks ∧ p = stepP q x := by
  obtain ⟨l, e, hl, rfl⟩ := h
  rcases List.eq_nil_or_concat l with z | ⟨t, x, z⟩
  · rw [z] at e
    cases e
  · rw [List.concat_eq_append] at z
    subst z
    refine ⟨(stI t a, stI t b), x, ⟨t, by rw [List.length_append] at e; exact Nat.succ.inj e, fun y hy => hl y (List.mem_append_left _ hy), rfl⟩, hl x (List.mem_append_right _ (List.mem_singleton.mpr rfl)), ?_⟩
    rw [stI_snocP, stI_snocP]
    rfl
/-- what has been seen at the moment m; hs are those of this moment -/
structure Bfs (ks : List Str) (a b : Option Run) (m : Nat) (hs ss : List PP) : Prop where
  r1 : ∀ p ∈ hs, Rch ks a b m p
  r3 : ∀ p ∈ ss, p ∈ hs ∨ ∃ n, n < m ∧ Rch ks a b n p
  r4 : ∀ p ∈ ss, p ∉ hs → ∀ x ∈ ks, stepP p x ∈ ss
  r5 : ∀ p, Rch ks a b m p → p ∈ ss
/-- in the middle of a moment -/
structure Bin (ks : List Str) (a b : Option Run) (m : Nat) (hs ss : List PP) (dn : PP → Str → Prop) (s2 ls : List PP) : Prop where
  b1 : ∀ p ∈ ss, p ∈ s2
  b2 : ∀ p ∈ s2, p ∈ ss ∨ p ∈ ls
  b3 : ∀ p ∈ ls, Rch ks a b (m + 1) p
  b4 : ∀ q x, dn q x → stepP q x ∈ s2
  b5 : ls.length ≤ s2.length
theorem Bin.start {ks : List Str} {a b : Option Run} {m : Nat} {hs ss : List PP} : Bin ks a b m hs ss (fun _ _ => False) ss [] := ⟨fun _ h => h, fun _ h => .inl h, fun _ h => (by cases h), fun _ _ h => h.elim, Nat.zero_le _⟩
theorem Bin.imp {ks : List Str} {a b : Option Run} {m : Nat} {hs ss : List PP} {dn d2 : PP → Str → Prop} {s2 ls : List PP} (h : Bin ks a b m hs ss dn s2 ls) (i : ∀ q x, d2 q x → dn q x) : Bin ks a b m hs ss d2 s2 ls := ⟨h.b1, h.b2, h.b3, fun q x z => h.b4 q x (i q x z), h.b5⟩
theorem Bin.old {ks : List Str} {a b : Option Run} {m : Nat} {hs ss : List PP} {dn : PP → Str → Prop} {s2 ls : List PP} {q : PP} {x : Str} (h : Bin ks a b m hs ss dn s2 ls) (i : stepP q x ∈ s2) : Bin ks a b m hs ss (fun r y => dn r y ∨ (r = q ∧ y = x)) s2 ls := ⟨h.b1, h.b2, h.b3, fun r y z => z.elim (h.b4 r y) fun z => by rw [z.1, z.2]; exact i, h.b5⟩
theorem Bin.new {ks : List Str} {a b : Option Run} {m : Nat} {hs ss : List PP} {dn : PP → Str → Prop} {s2 ls : List PP} {q : PP} {x : Str} (h : Bin ks a b m hs ss dn s2 ls) (r : Rch ks a b (m + 1) (stepP q x)) : Bin ks a b m hs ss (fun r y => dn r y ∨ (r = q ∧ y = x)) (s2 ++ [stepP q x]) (ls ++ [stepP q x]) := by
  refine ⟨fun p hp => List.mem_append_left _ (h.b1 p hp), fun p hp => ?_, fun p hp => ?_, fun r y z => ?_, ?_⟩
  · rcases List.mem_append.mp hp with z | z
    · rcases h.b2 p z with y | y
      · exact .inl y
      · exact .inr (List.mem_append_left _ y)
    · exact .inr (List.mem_append_right _ z)
  · rcases List.mem_append.mp hp with z | z
    · exact h.b3 p z
    · rw [List.mem_singleton.mp z]
      exact r
  · rcases z with z | z
    · exact List.mem_append_left _ (h.b4 r y z)
    · rw [z.1, z.2]
      exact List.mem_append_right _ (List.mem_singleton.mpr rfl)
  · rw [List.length_append, List.length_append]
    have := h.b5
    show ls.length + 1 ≤ s2.length + 1
    omega
theorem Bin.next {ks : List Str} {a b : Option Run} {m : Nat} {hs ss : List PP} {s2 ls : List PP} (f : Bfs ks a b m hs ss) (h : Bin ks a b m hs ss (fun q x => q ∈ hs ∧ x ∈ ks) s2 ls) : Bfs ks a b (m + 1) ls s2 := by
  refine ⟨h.b3, fun p hp => ?_, fun p hp no x hx => ?_, fun p hp => ?_⟩
  · rcases h.b2 p hp with z | z
    · rcases f.r3 p z with y | ⟨n, l, y⟩
      · exact .inr ⟨m, Nat.lt_succ_self _, f.r1 p y⟩
      · exact .inr ⟨n, by omega, y⟩
    · exact .inl z
  · rcases h.b2 p hp with z | z
    · by_cases c : p ∈ hs
      · exact h.b4 p x ⟨c, hx⟩
      · exact h.b1 _ (f.r4 p z c x hx)
    · exact absurd z no
  · obtain ⟨q, x, hq, hx, rfl⟩ := hp.pred
    by_cases c : q ∈ hs
    · exact h.b4 q x ⟨c, hx⟩
    · exact h.b1 _ (f.r4 q (f.r5 q hq) c x hx)
theorem Bfs.zero (ks : List Str) (a b : Option Run) : Bfs ks a b 0 [(a, b)] [(a, b)] := by
  refine ⟨fun p hp => ⟨[], rfl, (fun x h => by cases h), List.mem_singleton.mp hp⟩, fun p hp => .inl hp, fun p hp no => absurd hp no, fun p hp => ?_⟩
  obtain ⟨l, e, _, rfl⟩ := hp
  rw [List.eq_nil_of_length_eq_zero e]
  exact List.mem_singleton.mpr rfl
/-- as long as nobody meets -/
theorem Bfs.no {ks : List Str} {a b : Option Run} {m : Nat} {hs ss : List PP} (f : Bfs ks a b m hs ss) (pa : PosO a) (pb : PosO b) (ne : a ≠ b) (h : ¬ CanM ks a b ∨ (m : Int) < mxR a b) : ∀ p ∈ hs, p.1 ≠ p.2 := fun p hp => by
  obtain ⟨l, e, hl, rfl⟩ := f.r1 p hp
  rcases h with h | h
  · exact never pa pb hl ne h
  · exact not_soon pa pb ne (by rw [e]; exact h)
theorem Bfs.yes {ks : List Str} {a b : Option Run} {m : Nat} {hs ss : List PP} (f : Bfs ks a b m hs ss) (pa : PosO a) (pb : PosO b) (ne : a ≠ b) (c : CanM ks a b) (h : (m : Int) = mxR a b) : ∃ p ∈ hs, p.1 = p.2 := by
  obtain ⟨l, hl, e, h1, h2⟩ := can_meet pa pb ne c
  have r : Rch ks a b m (none, none) := ⟨l, by omega, hl, by rw [h1, h2]⟩
  rcases f.r3 _ (f.r5 _ r) with z | ⟨n, lt, l2, e2, hl2, ep⟩
  · exact ⟨_, z, rfl⟩
  · exfalso
    have := not_soon (l := l2) pa pb ne (by omega)
    have e1 : stI l2 a = none := (congrArg Prod.fst ep).symm
    have e2 : stI l2 b = none := (congrArg Prod.snd ep).symm
    rw [e1, e2] at this
    exact this rfl
/-- how many can have been seen -/
theorem rch_box {ks : List Str} {a b : Option Run} (pa : PosO a) (pb : PosO b) (ba : numR a ≤ 10) (bb : numR b ≤ 10) (lk : ks.length ≤ 12) {ss : List PP} (nd : ss.Nodup) (h : ∀ p ∈ ss, ∃ n, n ≤ 14 ∧ Rch ks a b n p) : ss.length ≤ 200000 := by
  obtain ⟨kk, ek⟩ : ∃ kk, kk = ks ++ ((a.map (·.1)).toList ++ (b.map (·.1)).toList) := ⟨_, rfl⟩
  have lkk : kk.length ≤ 14 := by
    rw [ek, List.length_append, List.length_append]
    have h1 : (a.map (·.1)).toList.length ≤ 1 := by cases a <;> simp
    have h2 : (b.map (·.1)).toList.length ≤ 1 := by cases b <;> simp
    omega
  have one : ∀ (s : Option Run) (l : List Str), PosO s → numR s ≤ 10 → (∀ r, s = some r → r.1 ∈ kk) → (∀ x ∈ l, x ∈ ks) → l.length ≤ 14 → stI l s ∈ boxR kk 24 := fun s l ps bs hs hl ll => box_mem fun r e => by
    have := stI_box (ks := kk) l s 10 (fun x hx => by rw [ek]; exact List.mem_append_left _ (hl x hx)) ps (fun r e => ⟨hs r e, by rw [e] at bs; exact bs⟩) (by decide) r e
    have p : PosO (stI l s) := by
      have gen : ∀ (l : List Str) (s : Option Run), PosO s → PosO (stI l s) := by
        intro l
        induction l with
        | nil => intro s h; exact h
        | cons x t ih => intro s h; exact ih _ (stepR_pos h (by decide))
      exact gen l s ps
    exact ⟨this.1, p r e, by omega⟩
  have sub : ∀ p ∈ ss, p ∈ (boxR kk 24).flatMap fun s => (boxR kk 24).map fun t => ((s, t) : PP) := fun p hp => by
    obtain ⟨n, hn, l, e, hl, rfl⟩ := h p hp
    refine List.mem_flatMap.mpr ⟨_, one a l pa ba (fun r e => ?_) hl (by omega), List.mem_map.mpr ⟨_, one b l pb bb (fun r e => ?_) hl (by omega), rfl⟩⟩
    · rw [ek, e]
      exact List.mem_append_right _ (List.mem_append_left _ (by simp))
    · rw [ek, e]
      exact List.mem_append_right _ (List.mem_append_right _ (by simp))
  have h1 := nodup_subR ss _ nd sub
  have h2 : ((boxR kk 24).flatMap fun s => (boxR kk 24).map fun t => ((s, t) : PP)).length = (boxR kk 24).length * (boxR kk 24).length := by
    generalize boxR kk 24 = L
    have gen : ∀ M : List (Option Run), (M.flatMap fun s => L.map fun t => ((s, t) : PP)).length = M.length * L.length := by
      intro M
      induction M with
      | nil => simp
      | cons k t ih => rw [List.flatMap_cons, List.length_append, ih, List.length_map, List.length_cons, Nat.add_mul, Nat.one_mul, Nat.add_comm]
    exact gen L
  have h3 : (boxR kk 24).length ≤ 337 := by
    rw [box_len]
    omega
  rw [h2] at h1
  have h4 : (boxR kk 24).length * (boxR kk 24).length ≤ 337 * 337 := Nat.mul_le_mul h3 h3
  omega
def keyP (p : PP) : NestedKey := .tup [keyR p.1, keyR p.2]
theorem keyP_inj {p q : PP} (h : keyP p = keyP q) : p = q := by
  unfold keyP at h
  simp only [NestedKey.tup.injEq, List.cons.injEq] at h
  exact Prod.ext (keyR_inj h.1) (keyR_inj h.2.1)
/-- a pair of states as a tuple -/
def PrV (H : Hp) (x : V) (p : PP) : Prop := ∃ t v u, x = .ref t ∧ H t = some (.tup [v, u]) ∧ StV H v p.1 ∧ StV H u p.2
theorem PrV.key {H : Hp} {x : V} {p : PP} (h : PrV H x p) : KeyIn H (keyP p) x := by
  obtain ⟨t, v, u, rfl, ht, hv, hu⟩ := h
  have dp : ∀ s : Option Run, (keyR s).depth ≤ 2 := fun s => by
    cases s with
    | none => simp [keyR, NestedKey.depth]
    | some r => simp [keyR, NestedKey.depth, NestedKey.depthAll]
  refine ⟨.tup ht (.cons (key_st hv).tell (.cons (key_st hu).tell .nil)), ?_, .inr ⟨t, rfl⟩⟩
  have h1 := dp p.1
  have h2 := dp p.2
  unfold keyP
  simp only [NestedKey.depth, NestedKey.depthAll]
  omega
/-- all tuples stay -/
def Tups (H H' : Hp) : Prop := ∀ b xs, H b = some (.tup xs) → H' b = some (.tup xs)
theorem Tups.trans {H H1 H2 : Hp} (a : Tups H H1) (b : Tups H1 H2) : Tups H H2 := fun c xs h => b c xs (a c xs h)
theorem Tups.of {H H' : Hp} (s : Same H H') : Tups H H' := fun c xs h => s c _ h
theorem Tups.put {H : Hp} {p : Addr} {o : HO} (h : NoTup H p) : Tups H (upd H p o) := fun c xs e => by
  have n : c ≠ p := fun z => by
    rw [z] at e
    exact h xs e
  rw [upd_ne n]
  exact e
theorem StV.tups {H H' : Hp} {v : V} {s : Option Run} (t : Tups H H') (h : StV H v s) : StV H' v s := by
  cases s with
  | none => exact h
  | some r =>
    obtain ⟨a, rfl, ha⟩ := h
    exact ⟨a, rfl, t _ _ ha⟩
theorem PrV.tups {H H' : Hp} {x : V} {p : PP} (t : Tups H H') (h : PrV H x p) : PrV H' x p := by
  obtain ⟨a, v, u, rfl, ha, hv, hu⟩ := h
  exact ⟨a, v, u, rfl, t _ _ ha, hv.tups t, hu.tups t⟩
end UP

set_option Elab.async false
set_option linter.all false
set_option maxRecDepth 100000
set_option maxHeartbeats 4000000
set_option pp.maxSteps 600
namespace UP
open PySem PySem.Spec PyProof.Rows L2
theorem shaped_ones (c : Nat) : SeqAt.shaped (.list (List.replicate c (.int 1))) = true := by
  have h : PyData.canLayAll0 (List.replicate c (.int 1)) = true ∧ PyData.depthAll (List.replicate c (.int 1)) ≤ 1 := by
    induction c with
    | zero => exact ⟨rfl, Nat.zero_le _⟩
    | succ c ih =>
      rw [List.replicate_succ]
      refine ⟨?_, ?_⟩
      · rw [PyData.canLayAll0, ih.1]
        simp [PyData.canLay0]
      · rw [PyData.depthAll]
        exact Nat.max_le.mpr ⟨by simp [PyData.depth], ih.2⟩
  unfold SeqAt.shaped
  rw [PyData.canLay0, h.1, PyData.depth]
  have := h.2
  exact decide_eq_true (by omega)
theorem eqv_ones (c : Nat) : PyData.eqv (.list (List.replicate c (.int 1))) (.list []) = decide (c = 0) := by
  cases c with
  | zero => simp [PyData.eqv, PyData.eqvAll]
  | succ c => simp [List.replicate_succ, PyData.eqv, PyData.eqvAll]
theorem dp_ones {K : PySem.W.Frag} {H : Hp} : ∀ c : Nat, DpAll K H (List.replicate c (.int 1)) (List.replicate c (.int 1))
  | 0 => .nil
  | c + 1 => by
    rw [List.replicate_succ, List.replicate_succ]
    exact .cons (.int 1) (dp_ones c)
section
variable {P : Program} {w : World} {K : PySem.W.Frag} {mg : Str → Option Value} {base : Heap}
/-! _law_due: slots 0:kinds 1:one 2:other 3:moment 4:here 5:seen 6:later 7:pair 8:kind 9:after -/
abbrev s_law_due : Stmt := topS 39
theorem sc_law_due : FnScope ["kinds", "one", "other", "moment", "here", "seen", "later", "pair", "kind", "after"] ["kinds", "one", "other"] (defScope s_law_due) := ⟨rfl, rfl, rfl, by decide +kernel, rfl, by decide +kernel, by decide +kernel⟩
def sp_law_due : Sp := fun vs H Q _ => ∃ (l : Addr) (v u : V) (ks : List Str) (a b : Option Run), vs = [.ref l, v, u] ∧ H l = some (.lst (ks.map V.str)) ∧ ks.length ≤ 12 ∧ (∀ k ∈ ks, KindOk k) ∧ StV H v a ∧ StV H u b ∧ StOk a ∧ StOk b ∧ numR a ≤ 10 ∧ numR b ≤ 10 ∧ ∀ H', Same H H' → Q (oV (dueR ks a b)) H'
theorem ok_law_due (D : Df K mg "_law_due" s_law_due) (T : Tx mg) (G_law_step : Has P w K mg base 1 "_law_step" ["state", "kind", "count"] sp_law_step) : Has P w K mg base 2 "_law_due" ["kinds", "one", "other"] sp_law_due := by
  refine has_of D sc_law_due (fun _ _ _ _ _ _ us hl => match us, hl with | [_, _, _], _ => rfl) (fun vs H Q E h => ?_) (fun f cdv A₀ outer s₀ H vs Q E hr h => ?_)
  · obtain ⟨_, _, _, _, _, _, rfl, _⟩ := h
    rfl
  · obtain ⟨l, v, u, ks, a, b, rfl, hl, lk, okk, hv, hu, ka, kb, ba, bb, q⟩ := h
    have pa : PosO a := fun r e => (ka r e).2
    have pb : PosO b := fun r e => (kb r e).2
    refine ⟨_, (pss_cons (ps_par (i := 4) (j := 5) (by rfl) sc_law_due.nd rfl rfl (by decide) rfl rfl (pa_cons (pe_lst (pa_cons (pe_tup (pa_cons (pv 1) (pa_cons (pv 2) pa_nil))) pa_nil)) (pa_cons (pe_doneX (w := w) rfl (room65 hr) (pe_tup (pa_cons (pv 1) (pa_cons (pv 2) pa_nil))) pe_bl) pa_nil)) (by rfl))
    (pss_cons (ps_for PassesOwn.never rfl (pi_range1 (by rfl) T.n_range (pa_cons pe_int pa_nil)) (pg_name (i := 3) sc_law_due.nd rfl (by first | exact Or.inl rfl | exact Or.inr rfl))
      (pss_cons (ps_if (pt_cmpR (op_neD hr.units) (pe_lc (own := [("pair", 7)]) rfl sc_law_due.nd (pi_list (pv 4)) (blkOk_by (N := ["kinds", "one", "other", "moment", "here", "seen", "later", "pair", "kind", "after"]) (sc := defScope s_law_due) (by decide +kernel)) (fun _ _ _ _ _ => (pg_name (i := 7) sc_law_due.nd rfl (by first | exact Or.inl rfl | exact Or.inr rfl))) (fun _ _ _ _ _ => pts_one (pt_cmpR (op_eqDK (K := K) rfl hr.units) (pe_ix (ix_tupK (K := K) rfl) (pv 7) pe_int (fun _ _ => rfl)) (pe_ix (ix_tupK (K := K) rfl) (pv 7) pe_int (fun _ _ => rfl)) (nomark _))) (fun _ _ _ _ _ => pe_int)) (pe_lst pa_nil) (nomark _)) (pss_one (ps_ret (pv 3))) pss_nil)
    (pss_cons (ps_set (i := 6) sc_law_due.nd rfl (by first | exact Or.inl rfl | exact Or.inr rfl) (pe_lst pa_nil))
    (pss_cons (ps_for PassesOwn.never rfl (pi_list (pv 4)) (pg_name (i := 7) sc_law_due.nd rfl (by first | exact Or.inl rfl | exact Or.inr rfl))
      (pss_one (ps_for PassesOwn.never rfl (pi_list (pv 0)) (pg_name (i := 8) sc_law_due.nd rfl (by first | exact Or.inl rfl | exact Or.inr rfl))
      (pss_cons (ps_set (i := 9) sc_law_due.nd rfl (by first | exact Or.inl rfl | exact Or.inr rfl) (pe_tup (pa_cons (pe_callH G_law_step (hr.mono (by omega)) (by rfl) (pa_cons (pe_ix ix_tup (pv 7) pe_int (fun _ _ => rfl)) (pa_cons (pv 8) (pa_cons pe_int pa_nil)))) (pa_cons (pe_callH G_law_step (hr.mono (by omega)) (by rfl) (pa_cons (pe_ix ix_tup (pv 7) pe_int (fun _ _ => rfl)) (pa_cons (pv 8) (pa_cons pe_int pa_nil)))) pa_nil))))
    (pss_one (ps_if (pt_cmpR (op_notInX (w := w) rfl (room65 hr)) (pv 9) (pv 5) (by with_unfolding_all rfl)) (pss_cons (ps_dputX (w := w) rfl (room65 hr) (pv 5) (pv 9) pe_bl rfl)
    (pss_one (ps_expr (pe_bm PySem.F.plainAttrs_list PySem.F.slot_list_append PySem.F.type_list_append mt_append (pv 6) (pa_cons (pv 9) pa_nil))))) pss_nil))))))
    (pss_one (ps_set (i := 4) sc_law_due.nd rfl (by first | exact Or.inl rfl | exact Or.inr rfl) (pv 6)))))))
    (pss_one (ps_ret pe_non)))), ?_⟩
    refine ⟨_, rfl, _, rfl, (by show 2 ≤ sizeLine; decide), fun t0 nt0 => ⟨(by show 1 ≤ sizeLine; decide), fun h0 nh0 => ?_⟩⟩
    intro d nd
    refine ⟨_, rfl, _, rfl, (by show 2 ≤ sizeLine; decide), fun t2 nt2 => ?_⟩
    have s1 := same_upd (o := .tup [v, u]) nt0
    have s2 := same_upd (o := .lst [.ref t0]) nh0
    have s3 := same_upd (o := DX w d []) nd
    have s4 := same_upd (o := .tup [v, u]) nt2
    have hd4 : (upd (upd (upd (upd H t0 (.tup [v, u])) h0 (.lst [.ref t0])) d (DX w d [])) t2 (.tup [v, u])) d = some (DX w d []) := s4 _ _ upd_same
    have ht04 := s4 _ _ (s3 _ _ (s2 _ _ (upd_same : (upd H t0 (.tup [v, u])) t0 = some (.tup [v, u]))))
    have hh4 := s4 _ _ (s3 _ _ (upd_same : (upd (upd H t0 (.tup [v, u])) h0 (.lst [.ref t0])) h0 = some (.lst [.ref t0])))
    have ht24 : (upd (upd (upd (upd H t0 (.tup [v, u])) h0 (.lst [.ref t0])) d (DX w d [])) t2 (.tup [v, u])) t2 = some (.tup [v, u]) := upd_same
    have s04 : Same H _ := s1.trans (s2.trans (s3.trans s4))
    have ndH : H d = none := (s1.trans s2).free nd
    obtain ⟨H4, eH⟩ : ∃ H4, upd (upd (upd (upd H t0 (.tup [v, u])) h0 (.lst [.ref t0])) d (DX w d [])) t2 (.tup [v, u]) = H4 := ⟨_, rfl⟩
    rw [eH] at hd4 ht04 hh4 ht24 s04 ⊢
    have p2 : PrV H4 (.ref t2) (a, b) := ⟨t2, v, u, rfl, ht24, hv.same s04, hu.same s04⟩
    refine ⟨hd4, keyP (a, b), p2.key, ?_⟩
    have hd5 : (upd H4 d (DX w d [(keyP (a, b), .ref t2, .bl true)])) d = some (DX w d [(keyP (a, b), .ref t2, .bl true)]) := upd_same
    have tp5 : Tups H4 (upd H4 d (DX w d [(keyP (a, b), .ref t2, .bl true)])) := Tups.put (noTup_dx hd4)
    have hd_h0 : h0 ≠ d := fun z => by
      rw [z, hd4] at hh4
      cases hh4
    have hh5 : (upd H4 d (DX w d [(keyP (a, b), .ref t2, .bl true)])) h0 = some (.lst [.ref t0]) := by
      rw [upd_ne hd_h0]
      exact hh4
    have s05 : Same H (upd H4 d (DX w d [(keyP (a, b), .ref t2, .bl true)])) := same_grow ndH s04
    obtain ⟨H5, eH5⟩ : ∃ H5, upd H4 d (DX w d [(keyP (a, b), .ref t2, .bl true)]) = H5 := ⟨_, rfl⟩
    rw [eH5] at hd5 tp5 hh5 s05 ⊢
    have dx5 : DXs w H5 d [(keyP (a, b), .ref t2, .bl true)] := ⟨hd5, fun r hr => by
      rw [List.mem_singleton.mp hr]
      exact (p2.tups tp5).key⟩
    have p05 : PrV H5 (.ref t0) (a, b) := ⟨t0, v, u, rfl, tp5 _ _ ht04, hv.same s05, hu.same s05⟩
    clear eH5 eH s1 s2 s3 s4 nt0 nh0 nd nt2 hd4 ht04 hh4 ht24 s04 p2 tp5 hd_h0
    refine ⟨_, _, rfl, 13, rfl, by decide, by decide, for_range (lo := 0) (n := 13) (fun m σ H' => ∃ y3 y6 y7 y8 y9 hA xs hs ss rows, σ = [some (.ref l), some v, some u, y3, some (.ref hA), some (.ref d), y6, y7, y8, y9] ∧ Same H H' ∧ hA ≠ d ∧ H' hA = some (.lst xs) ∧ Paired (PrV H') xs hs ∧ DXs w H' d rows ∧ rows.map (·.1) = ss.map keyP ∧ ss.Nodup ∧ Bfs ks a b m hs ss ∧ hs.length ≤ ss.length ∧ (a ≠ b ∨ m = 0) ∧ (a ≠ b → CanM ks a b → (m : Int) ≤ mxR a b))
      ⟨_, _, _, _, _, h0, _, [(a, b)], [(a, b)], _, rfl, s05, ?_, hh5, .cons p05 .nil, dx5, rfl, List.nodup_cons.mpr ⟨List.not_mem_nil, List.nodup_nil⟩, Bfs.zero ks a b, Nat.le_refl _, .inr rfl, fun _ _ => ?_⟩ (fun m σ H6 hm hP => ?_) (fun σ H6 hP => ?_)⟩
    · intro z
      rw [z, hd5] at hh5
      cases hh5
    · have h1 := num_nn pa
      have h2 := num_nn pb
      unfold mxR
      split <;> omega
    · obtain ⟨y3, y6, y7, y8, y9, hA, xs, hs, ss, rows, rfl, sm, nAd, hxA, hp, dx, ek, nd, f, lhs, eq0, mx⟩ := hP
      have hm : m < 13 := hm
      have lx : xs.length = hs.length := Paired.len hp
      have lss : ss.length ≤ 200000 := rch_box pa pb ba bb lk nd fun p hp => by
        rcases f.r3 p hp with z | ⟨n, z, y⟩
        · exact ⟨m, by omega, f.r1 p z⟩
        · exact ⟨n, by omega, y⟩
      refine ⟨_, rfl, hA, rfl, ⟨_, .of hxA⟩, fun L nL => lc_list (K := K) (a := hA) (xs := xs) (fun i H' => Same H6 H' ∧ ∃ c : Nat, H' L = some (.lst (List.replicate c (.int 1))) ∧ c ≤ i ∧ (0 < c ↔ ∃ p ∈ hs.take i, p.1 = p.2)) ⟨same_upd nL, 0, upd_same, Nat.le_refl _, ⟨fun z => absurd z (Nat.lt_irrefl _), fun z => by obtain ⟨p, hp, _⟩ := z; rw [List.take_zero] at hp; cases hp⟩⟩ (fun i H' _ p => .of (p.1 _ _ hxA)) (fun i x H7 ex hP => ?_) (fun H7 hP => ?_)⟩
      · obtain ⟨s7, c, hL, ci, cc⟩ := hP
        obtain ⟨p, ep, hp1⟩ := Paired.at hp ex
        have hi : i < xs.length := (List.getElem?_eq_some_iff.mp ex).1
        obtain ⟨t, v1, u1, rfl, ht, hv1, hu1⟩ := hp1.tups (Tups.of s7)
        obtain ⟨q, kq, eq⟩ : ∃ q, Rch ks a b m q ∧ q = p := ⟨p, f.r1 p (List.mem_of_getElem? ep), rfl⟩
        have okp : StOk p.1 ∧ StOk p.2 := by
          obtain ⟨l', _, hl', e⟩ := kq
          rw [← eq, e]
          have gen : ∀ (l : List Str) (s : Option Run), (∀ x ∈ l, KindOk x) → StOk s → StOk (stI l s) := by
            intro l
            induction l with
            | nil => intro s _ h; exact h
            | cons x t ih => intro s hx h; exact ih _ (fun y hy => hx y (List.mem_cons_of_mem _ hy)) (stOk_stepC h (hx x (List.mem_cons_self ..)) (by decide))
          exact ⟨gen l' a (fun x hx => okk x (hl' x hx)) ka, gen l' b (fun x hx => okk x (hl' x hx)) kb⟩
        refine ⟨rfl, _, rfl, t, _, _, _, rfl, rfl, .of ht, at0, _, rfl, t, _, _, _, rfl, rfl, .of ht, at1, _, _, dp_o hv1, dp_o hu1, shaped_o okp.1, shaped_o okp.2, _, rfl, ?_⟩
        rw [eqv_o]
        rw [take_snoc ep]
        by_cases e : p.1 = p.2
        · refine iteP (decide_eq_true e) ⟨_, hL, ?_, same_grow nL s7, c + 1, ?_, by omega, ⟨fun _ => ⟨p, List.mem_append_right _ (List.mem_singleton.mpr rfl), e⟩, fun _ => Nat.succ_pos _⟩⟩
          · rw [List.length_replicate]
            exact small (by omega)
          · rw [upd_same, List.replicate_succ']
        · refine iteN (decide_eq_false e) ⟨s7, c, hL, by omega, cc.trans ⟨fun ⟨r, hr, h⟩ => ⟨r, List.mem_append_left _ hr, h⟩, fun ⟨r, hr, h⟩ => ?_⟩⟩
          rcases List.mem_append.mp hr with z | z
          · exact ⟨r, z, h⟩
          · rw [List.mem_singleton.mp z] at h
            exact absurd h e
      obtain ⟨s7, c, hL, _, cc⟩ := hP
      rw [lx, List.take_length] at cc
      refine ⟨Nat.zero_le _, fun e1 ne1 => ?_⟩
      have s8 := same_upd (o := .lst []) ne1
      refine ⟨.list (List.replicate c (.int 1)), .list [], .lst (.of (s8 _ _ hL)) (dp_ones c), .lst (.of upd_same) .nil, shaped_ones c, shaped_nil, _, rfl, ?_⟩
      rw [eqv_ones]
      have s68 := s7.trans s8
      by_cases c0 : c = 0
      · refine iteN (by rw [c0]; rfl) ?_
        have noeq : ∀ p ∈ hs, p.1 ≠ p.2 := fun p hp e => by
          have := cc.mpr ⟨p, hp, e⟩
          omega
        have hxA8 := s68 _ _ hxA
        have hp8 : Paired (PrV _) xs hs := Paired.imp (fun _ _ z => z.tups (Tups.of s68)) hp
        have dx8 := dx.same s68
        have sm8 := sm.trans s68
        obtain ⟨H8, eH⟩ : ∃ H8, upd H7 e1 (.lst []) = H8 := ⟨_, rfl⟩
        rw [eH] at hxA8 hp8 dx8 sm8 ⊢
        clear eH s68 s8 ne1 hL nL s7 hp dx hxA cc
        refine ⟨Nat.zero_le _, fun g ng => ?_⟩
        have sg := same_upd (o := .lst []) ng
        have hg9 : (upd H8 g (.lst [])) g = some (.lst []) := upd_same
        have hgd : g ≠ d := (ne_of_none dx8.there ng).symm
        have hgA : g ≠ hA := (ne_of_none hxA8 ng).symm
        have hxA9 := sg _ _ hxA8
        have hp9 : Paired (PrV _) xs hs := Paired.imp (fun _ _ z => z.tups (Tups.of sg)) hp8
        have dx9 := dx8.same sg
        have sm9 := sm8.trans sg
        have ngH : H g = none := sm8.free ng
        obtain ⟨H9, eH⟩ : ∃ H9, upd H8 g (.lst []) = H9 := ⟨_, rfl⟩
        rw [eH] at hg9 hxA9 hp9 dx9 sm9 ⊢
        clear eH sg ng hxA8 hp8 dx8 sm8
        have two : ∀ {zs : List PP} {s2 : List PP}, Bin ks a b m hs ss (fun _ _ => False) s2 zs → True := fun _ => trivial
        have bd : ∀ {dn : PP → Str → Prop} {s2 ls : List PP}, Bin ks a b m hs ss dn s2 ls → s2.Nodup → s2.length ≤ 200000 := fun B n2 => rch_box pa pb ba bb lk n2 fun p hp => by
          rcases B.b2 p hp with z | z
          · rcases f.r3 p z with z | ⟨n, z, y⟩
            · exact ⟨m, by omega, f.r1 p z⟩
            · exact ⟨n, by omega, y⟩
          · exact ⟨m + 1, by omega, B.b3 p z⟩
        refine ⟨_, rfl, hA, rfl, ⟨_, .of hxA9⟩, for_list (K := K) (a := hA) (xs := xs) (fun i σ H' => ∃ y7 y8 y9 zs ls s2 rows, σ = [some (.ref l), some v, some u, some (.int (0 + (m : Int))), some (.ref hA), some (.ref d), some (.ref g), y7, y8, y9] ∧ Same H H' ∧ Tups H9 H' ∧ H' hA = some (.lst xs) ∧ H' g = some (.lst zs) ∧ Paired (PrV H') zs ls ∧ DXs w H' d rows ∧ rows.map (·.1) = s2.map keyP ∧ s2.Nodup ∧ Bin ks a b m hs ss (fun p x => p ∈ hs.take i ∧ x ∈ ks) s2 ls)
          ⟨_, _, _, [], [], ss, rows, rfl, sm9, Tups.of (Same.refl _), hxA9, hg9, .nil, dx9, ek, nd, Bin.start.imp fun p x z => by rw [List.take_zero] at z; cases z.1⟩ (fun i σ H' _ hP => ?_) (fun i x σ H10 ex hP => ?_) (fun σ H10 hP => ?_)⟩
        · obtain ⟨_, _, _, _, _, _, _, _, _, _, h, _⟩ := hP
          exact .of h
        · obtain ⟨y7, y8, y9, zs, ls, s2, rows2, rfl, sm10, tp10, hxA10, hg10, hpg, dx10, ek10, nd10, B⟩ := hP
          obtain ⟨p, ep, hp1⟩ := Paired.at hp9 ex
          refine ⟨_, rfl, l, rfl, ⟨_, .of (sm10 _ _ hl)⟩, for_list (K := K) (a := l) (xs := ks.map V.str) (fun j σ H' => ∃ y8 y9 zs ls s2 rows, σ = [some (.ref l), some v, some u, some (.int (0 + (m : Int))), some (.ref hA), some (.ref d), some (.ref g), some x, y8, y9] ∧ Same H H' ∧ Tups H9 H' ∧ H' hA = some (.lst xs) ∧ H' g = some (.lst zs) ∧ Paired (PrV H') zs ls ∧ DXs w H' d rows ∧ rows.map (·.1) = s2.map keyP ∧ s2.Nodup ∧ Bin ks a b m hs ss (fun q y => (q ∈ hs.take i ∧ y ∈ ks) ∨ (q = p ∧ y ∈ ks.take j)) s2 ls)
            ⟨_, _, zs, ls, s2, rows2, rfl, sm10, tp10, hxA10, hg10, hpg, dx10, ek10, nd10, B.imp fun q y z => ?_⟩ (fun j σ H' _ hP => ?_) (fun j z σ H11 ez hP => ?_) (fun σ H11 hP => ?_)⟩
          · rcases z with z | z
            · exact z
            · rw [List.take_zero] at z
              cases z.2
          · obtain ⟨_, _, _, _, _, _, _, h, _⟩ := hP
            exact .of (h _ _ hl)
          · clear hg10 hpg dx10 ek10 nd10 B hxA10 tp10 sm10
            obtain ⟨y8, y9, zs, ls, s2, rows3, rfl, sm11, tp11, hxA11, hg11, hpg, dx11, ek11, nd11, B⟩ := hP
            obtain ⟨kd, ekd, rfl⟩ := str_at ez
            obtain ⟨t, v1, u1, rfl, ht, hv1, hu1⟩ := hp1.tups tp11
            have kin : kd ∈ ks := List.mem_of_getElem? ekd
            have rp : Rch ks a b m p := f.r1 p (List.mem_of_getElem? ep)
            refine ⟨_, rfl, t, _, 0, _, rfl, rfl, .of ht, at0, _, rfl, v1, p.1, kd, 1, rfl, hv1, by decide, fun H12 v2 s12 hv2 => ?_⟩
            refine ⟨_, rfl, t, _, 1, _, rfl, rfl, .of (s12 _ _ ht), at1, _, rfl, u1, p.2, kd, 1, rfl, hu1.same s12, by decide, fun H13 u2 s13 hu2 => ?_⟩
            refine ⟨(by show 2 ≤ sizeLine; decide), fun t3 nt3 => ?_⟩
            have s14 := same_upd (o := .tup [v2, u2]) nt3
            have s1114 := s12.trans (s13.trans s14)
            have pn : PrV (upd H13 t3 (.tup [v2, u2])) (.ref t3) (stepP p kd) := ⟨t3, v2, u2, rfl, upd_same, (hv2.same s13).same s14, hu2.same s14⟩
            obtain ⟨H14, eH⟩ : ∃ H14, upd H13 t3 (.tup [v2, u2]) = H14 := ⟨_, rfl⟩
            rw [eH] at s1114 pn ⊢
            have dx14 := dx11.same s1114
            have hg14 := s1114 _ _ hg11
            have hxA14 := s1114 _ _ hxA11
            have hpg14 : Paired (PrV H14) zs ls := Paired.imp (fun _ _ z => z.tups (Tups.of s1114)) hpg
            have sm14 := sm11.trans s1114
            have tp14 := tp11.trans (Tups.of s1114)
            have lz : zs.length = ls.length := Paired.len hpg
            have bd2 := bd B nd11
            have lr : rows3.length = s2.length := by
              have := congrArg List.length ek11
              rw [List.length_map, List.length_map] at this
              exact this
            have memk : keyP (stepP p kd) ∈ rows3.map (·.1) ↔ stepP p kd ∈ s2 := by
              rw [ek11]
              constructor
              · intro h
                obtain ⟨q, hq, e⟩ := List.mem_map.mp h
                rw [← keyP_inj e]
                exact hq
              · intro h
                exact List.mem_map.mpr ⟨_, h, rfl⟩
            have dn : ∀ q y, ((q ∈ hs.take i ∧ y ∈ ks) ∨ (q = p ∧ y ∈ ks.take (j + 1))) → ((q ∈ hs.take i ∧ y ∈ ks) ∨ (q = p ∧ y ∈ ks.take j)) ∨ (q = p ∧ y = kd) := fun q y z => by
              rcases z with z | ⟨z1, z2⟩
              · exact .inl (.inl z)
              · rw [take_snoc ekd] at z2
                rcases List.mem_append.mp z2 with h | h
                · exact .inl (.inr ⟨z1, h⟩)
                · exact .inr ⟨z1, List.mem_singleton.mp h⟩
            refine ⟨_, rfl, _, rfl, d, rows3, keyP (stepP p kd), rfl, dx14, pn.key, _, rfl, ?_⟩
            rw [valX_isSome]
            by_cases c : stepP p kd ∈ s2
            · refine iteN (by rw [decide_eq_true (memk.mpr c)]; rfl) ?_
              exact ⟨_, _, zs, ls, s2, rows3, rfl, sm14, tp14, hxA14, hg14, hpg14, dx14, ek11, nd11, (B.old c).imp dn⟩
            · have nk : keyP (stepP p kd) ∉ rows3.map (·.1) := fun z => c (memk.mp z)
              refine iteP (by rw [decide_eq_false nk]; rfl) ?_
              refine ⟨_, rfl, _, rfl, d, rows3, keyP (stepP p kd), rfl, dx14, pn.key, Nat.le_of_lt (small (by omega)), ?_⟩
              have dxN := dx14.put (v := .bl true) pn.key
              rw [putX_new nk] at dxN ⊢
              have tpd : Tups H14 (upd H14 d (DX w d (rows3 ++ [(keyP (stepP p kd), .ref t3, .bl true)]))) := Tups.put (noTup_dx dx14.there)
              have hgN : (upd H14 d (DX w d (rows3 ++ [(keyP (stepP p kd), .ref t3, .bl true)]))) g = some (.lst zs) := by
                rw [upd_ne hgd]
                exact hg14
              have hxN : (upd H14 d (DX w d (rows3 ++ [(keyP (stepP p kd), .ref t3, .bl true)]))) hA = some (.lst xs) := by
                rw [upd_ne nAd]
                exact hxA14
              have smN : Same H (upd H14 d (DX w d (rows3 ++ [(keyP (stepP p kd), .ref t3, .bl true)]))) := same_grow ndH sm14
              obtain ⟨H15, eH15⟩ : ∃ H15, upd H14 d (DX w d (rows3 ++ [(keyP (stepP p kd), .ref t3, .bl true)])) = H15 := ⟨_, rfl⟩
              rw [eH15] at dxN tpd hgN hxN smN ⊢
              refine ⟨_, rfl, .inl ⟨rfl, _, SqL.of hgN⟩, _, rfl, g, _, _, rfl, rfl, hgN, small (by have := B.b5; omega), ?_⟩
              have tpg : Tups H15 (upd H15 g (.lst (zs ++ [.ref t3]))) := Tups.put (noTup_lst hgN)
              refine ⟨_, _, zs ++ [.ref t3], ls ++ [stepP p kd], s2 ++ [stepP p kd], _, rfl, same_grow ngH smN, (tp14.trans tpd).trans tpg, ?_, upd_same, Paired.app (Paired.imp (fun _ _ z => z.tups (tpd.trans tpg)) hpg14) (.cons (pn.tups (tpd.trans tpg)) .nil), ⟨?_, fun r hr => (dxN.keys r hr).at tpg⟩, ?_, ?_, (B.new (rp.step kin)).imp dn⟩
              · rw [upd_ne hgA.symm]
                exact hxN
              · rw [upd_ne hgd.symm]
                exact dxN.there
              · rw [List.map_append, List.map_append, ek11]
                rfl
              · refine List.nodup_append.mpr ⟨nd11, List.nodup_cons.mpr ⟨List.not_mem_nil, List.nodup_nil⟩, fun x hx y hy => ?_⟩
                rw [List.mem_singleton.mp hy]
                exact fun z => c (z ▸ hx)
          · obtain ⟨y8, y9, zs, ls, s2, rows3, rfl, sm11, tp11, hxA11, hg11, hpg, dx11, ek11, nd11, B⟩ := hP
            rw [List.length_map, List.take_length] at B
            refine ⟨_, _, _, zs, ls, s2, rows3, rfl, sm11, tp11, hxA11, hg11, hpg, dx11, ek11, nd11, B.imp fun q y z => ?_⟩
            rw [take_snoc ep] at z
            rcases List.mem_append.mp z.1 with h | h
            · exact .inl ⟨h, z.2⟩
            · exact .inr ⟨List.mem_singleton.mp h, z.2⟩
        · obtain ⟨y7, y8, y9, zs, ls, s2, rows2, rfl, sm10, tp10, hxA10, hg10, hpg, dx10, ek10, nd10, B⟩ := hP
          rw [lx, List.take_length] at B
          have ab : a ≠ b := by
            rcases eq0 with z | z
            · exact z
            · intro e
              have r0 : Rch ks a b m (a, b) := ⟨[], by rw [z]; rfl, (fun x h => by cases h), rfl⟩
              rcases f.r3 _ (f.r5 _ r0) with y | ⟨n, y, _⟩
              · exact noeq _ y e
              · omega
          exact ⟨_, rfl, _, _, _, _, _, g, zs, ls, s2, rows2, rfl, sm10, hgd, hg10, hpg, dx10, ek10, nd10, B.next f, B.b5, .inl ab, fun _ cm => by
            have h1 := mx ab cm
            by_cases e : (m : Int) = mxR a b
            · obtain ⟨p, hp, e⟩ := f.yes pa pb ab cm e
              exact absurd e (noeq p hp)
            · omega⟩
      · refine iteP (by rw [decide_eq_false c0]; rfl) ⟨_, rfl, ?_⟩
        obtain ⟨p, hp, e⟩ := cc.mp (by omega)
        have dq : dueR ks a b = some ((0 : Int) + m) := by
          by_cases ab : a = b
          · have m0 : m = 0 := eq0.resolve_left fun z => z ab
            rw [m0, ab, due_eq]
            rfl
          · by_cases cm : CanM ks a b
            · have h1 := mx ab cm
              have h2 : ¬ (m : Int) < mxR a b := fun z => f.no pa pb ab (.inr z) p hp e
              rw [due_can ab cm]
              congr 1
              omega
            · exact absurd e (f.no pa pb ab (.inl cm) p hp)
        rw [dq] at q
        exact q _ (sm.trans s68)
    · obtain ⟨y3, y6, y7, y8, y9, hA, xs, hs, ss, rows, rfl, sm, _, _, _, _, _, _, f, _, eq0, mx⟩ := hP
      have ab : a ≠ b := eq0.resolve_right (by decide)
      have no : ¬ CanM ks a b := fun c => by
        have := mx ab c
        unfold mxR at this
        split at this <;> omega
      rw [due_not ab no] at q
      exact q _ sm
end
end UP

set_option Elab.async false
set_option linter.all false
set_option maxRecDepth 100000
set_option maxHeartbeats 4000000
set_option pp.maxSteps 600
namespace UP
open PySem PySem.Spec PyProof.Rows L2
theorem sim_three {N : Addr → Prop} {H : Hp} {v : V} {x y z : PyData} (h : Sim N H 3 v (.list [x, y, z])) : ∃ d a b c, v = .ref d ∧ Sq2 H d [a, b, c] ∧ Sim N H 2 a x ∧ Sim N H 2 b y ∧ Sim N H 2 c z := by
  rcases h with h | ⟨d, xs, ds, rfl, _, hx, e, p, _⟩
  · exact (dsc_lst h).elim
  · cases e
    cases p with
    | cons h1 p =>
    cases p with
    | cons h2 p =>
    cases p with
    | cons h3 p =>
    cases p
    exact ⟨d, _, _, _, rfl, hx, h1, h2, h3⟩
theorem atS {K : PySem.W.Frag} {H : Hp} {t : Addr} {xs : List V} {i : Int} {x : V} {Q : VK} (h : Sq2 H t xs) (e : atI xs i = some x) (q : Q x H) : rIx K (.ref t) (.int i) H Q := h.elim (fun z => .inl ⟨t, _, i, _, rfl, rfl, .of z, e, q⟩) (fun z => .inr (.inl ⟨t, _, i, _, rfl, rfl, .of z, e, q⟩))
theorem simR_strs {H : Hp} {p l : Addr} {ks : List Str} {n : Nat} (ne : l ≠ p) (h : H l = some (.lst (ks.map V.str))) (lk : ks.length ≤ 1000) : Sim (· ≠ p) H (n + 1) (.ref l) (.list (ks.map PyData.str)) := by
  refine .inr ⟨l, _, _, rfl, ne, .inl h, rfl, ?_, by rw [List.length_map]; exact lk⟩
  have gen : ∀ ks : List Str, Paired (Sim (· ≠ p) H n) (ks.map V.str) (ks.map PyData.str) := by
    intro ks
    induction ks with
    | nil => exact .nil
    | cons k t ih => exact .cons (Sim.dsc (.inr (.inr (.inr ⟨_, rfl, rfl⟩)))) ih
  exact gen ks
theorem dsc_str {v : V} {s : Str} (h : Dsc v (.str s)) : v = .str s := by
  rcases h with ⟨_, e⟩ | ⟨_, _, e⟩ | ⟨_, _, e⟩ | ⟨_, e1, e⟩
  · cases e
  · cases e
  · cases e
  · cases e
    exact e1
theorem sim_strs {N : Addr → Prop} {H : Hp} {v : V} {ks : List Str} {n : Nat} (h : Sim N H (n + 1) v (.list (ks.map PyData.str))) : ∃ b, v = .ref b ∧ Sq2 H b (ks.map V.str) := by
  rcases h with h | ⟨b, xs, ds, rfl, _, hx, e, p, _⟩
  · exact (dsc_lst h).elim
  · cases e
    refine ⟨b, rfl, ?_⟩
    have gen : ∀ (ks : List Str) (xs : List V), Paired (Sim N H n) xs (ks.map PyData.str) → xs = ks.map V.str := by
      intro ks
      induction ks with
      | nil =>
        intro xs h
        cases h
        rfl
      | cons k t ih =>
        intro xs h
        cases h with
        | cons h1 h2 =>
          rw [ih _ h2]
          have : ∀ {x : V}, Sim N H n x (.str k) → x = .str k := fun {x} h => by
            cases n with
            | zero => exact dsc_str h
            | succ m =>
              rcases h with h | ⟨_, _, _, _, _, _, e, _⟩
              · exact dsc_str h
              · cases e
          rw [this h1]
          rfl
    rw [← gen ks xs p]
    exact hx
theorem dps_strs {K : PySem.W.Frag} {H : Hp} {b : Addr} {ks : List Str} (h : Sq2 H b (ks.map V.str)) (k : ∀ s ∈ ks, KindOk s) (l : ks.length ≤ 12) : ∃ d, DpS K H (.ref b) d ∧ Nice 108 1 d := by
  obtain ⟨d, h1, h2⟩ := dps_seq (K := K) (w := 8) (n := 0) h fun x hx => by
    obtain ⟨s, hs, e⟩ := List.mem_map.mp hx
    rw [← e]
    exact ⟨.str s, fun _ _ => .str s, nice_str (k s hs)⟩
  exact ⟨d, h1, h2.mono (by rw [List.length_map]; omega) (Nat.le_refl _)⟩
theorem cut_takeE (xs : List V) (r : Nat) (h1 : r ≤ xs.length) : cutV xs none (some (r : Int)) = xs.take r := by
  have e : HT.sIx xs.length xs.length (some (r : Int)) = r := by
    have := HT.sIx_nat xs.length xs.length r
    omega
  unfold cutV
  rw [e, HT.sIx_none, List.drop_zero, Nat.sub_zero]
def dOI : Option Int → PyData
  | none => .none
  | some i => .int i
theorem dp_oi {K : PySem.W.Frag} {H : Hp} (o : Option Int) : Dp K H (oV o) (dOI o) := by
  cases o with
  | none => exact .non
  | some i => exact .int i
theorem scal_oo (a b : Option Int) : scal (oV a) (oV b) = true := by
  cases a <;> cases b <;> rfl
theorem can_oi (o : Option Int) : PyData.canLay0 (.list [dOI o, dOI o]) = true := by
  cases o <;> simp [dOI, PyData.canLay0, PyData.canLayAll0]
theorem shaped_oi (o : Option Int) : SeqAt.shaped (.list [dOI o, dOI o]) = true := by
  unfold SeqAt.shaped
  rw [can_oi]
  cases o <;> simp [dOI, PyData.depth, PyData.depthAll]
theorem cut_strs (ks : List Str) (n : Nat) (h0 : 0 < ks.length) (h1 : 0 < n) : ∃ ms : List Str, cutV (ks.map V.str) none (some (n : Int)) = ms.map V.str ∧ 0 < ms.length ∧ ms.length ≤ ks.length ∧ ∀ s ∈ ms, s ∈ ks := by
  refine ⟨ks.take (min n ks.length), ?_, ?_, ?_, fun s hs => List.mem_of_mem_take hs⟩
  · unfold cutV
    rw [HT.sIx_none, HT.sIx_nat, List.drop_zero, Nat.sub_zero, ← List.map_take, List.length_map]
  · rw [List.length_take]
    omega
  · rw [List.length_take]
    omega
theorem le_len : ∀ (rs : List Run), (∀ r ∈ rs, 1 ≤ r.2) → ∀ r ∈ rs, r.2 ≤ lenR rs
  | [], _, r, h => by cases h
  | x :: t, k, r, h => by
    have kt : ∀ y ∈ t, 1 ≤ y.2 := fun y hy => k y (List.mem_cons_of_mem _ hy)
    have := lenR_nn kt
    have := k x (List.mem_cons_self ..)
    rw [lenR_cons]
    rcases List.mem_cons.mp h with e | e
    · rw [e]
      omega
    · have := le_len t kt r e
      omega
theorem in_strs {ks : List Str} {k : Str} (h : k ∈ ks) : inV (.str k) (ks.map V.str) = true := by
  unfold inV
  rw [List.any_eq_true]
  refine ⟨.str k, List.mem_map.mpr ⟨k, h, rfl⟩, ?_⟩
  show (k == k) = true
  simp
theorem flat_strs (ks : List Str) : (ks.map V.str).all flatV = true := by
  rw [List.all_eq_true]
  intro x hx
  obtain ⟨k, _, rfl⟩ := List.mem_map.mp hx
  rfl
theorem seq_meet {ks : List Str} {a b : Option Run} {rs : List Run} (ok : ∀ k ∈ ks, KindOk k) (mb : mxR a b ≤ 1000000000000000000000000000000) (m : MeetOk ks a b rs) : SeqOk rs := by
  refine ⟨by have := m.2.2.1; omega, fun r hr => ⟨ok _ (m.1 r hr).1, (m.1 r hr).2, ?_⟩, m.2.1⟩
  have := le_len rs (fun x hx => (m.1 x hx).2) r hr
  rw [m.2.2.2.1] at this
  omega
theorem eqv_nnR : PyData.eqv (.list []) (.list []) = true := by decide
theorem other_ok : KindOk "other" := by decide +kernel
theorem nice_oi {o : Option Int} (h : ∀ i, o = some i → 0 ≤ i ∧ i ≤ 100) : ∃ w, w ≤ 500 ∧ Nice w 1 (.list [dOI o, dOI o]) := by
  have one : Nice 201 0 (dOI o) := by
    cases o with
    | none => exact nice_none.mono (by decide) (Nat.le_refl _)
    | some i => exact (nice_int (by have := h i rfl; omega)).mono (by decide) (Nat.le_refl _)
  refine ⟨(201 + 1) * 2, by decide, nice_list (ds := [dOI o, dOI o]) fun d hd => ?_⟩
  rcases List.mem_cons.mp hd with e | e
  · rw [e]; exact one
  · rw [List.mem_singleton.mp e]; exact one
end UP

set_option Elab.async false
set_option linter.all false
set_option maxRecDepth 100000
set_option maxHeartbeats 4000000
set_option pp.maxSteps 600
namespace UP
open PySem PySem.Spec PyProof.Rows L2
theorem sum_lenP : ∀ rs : List Run, (rs.map (·.2)).sum = lenR rs
  | [] => rfl
  | r :: t => by
    rw [List.map_cons, List.sum_cons, sum_lenP t, lenR_cons]
section
variable {P : Program} {w : World} {K : PySem.W.Frag} {mg : Str → Option Value} {base : Heap}
/-! law: slots 0:script 1:reel 2:k 3:names 4:kinds 5:turn 6:due 7:dressed 8:kept 9:found 10:runs 11:one 12:other 13:run -/
abbrev s_law : Stmt := topS 40
theorem sc_law : FnScope ["script", "reel", "k", "names", "kinds", "turn", "due", "dressed", "kept", "found", "runs", "one", "other", "run"] ["script"] (defScope s_law) := ⟨rfl, rfl, rfl, by decide +kernel, rfl, by decide +kernel, by decide +kernel⟩
def sp_law (K : PySem.W.Frag) : Sp := fun vs H Q _ => ∃ (a : Addr) (ns : List Int), vs = [.ref a] ∧ SqL K H a (ns.map V.int) ∧ ns.length ≤ 63 ∧ ∀ H', Q (.bl true) H'
theorem fn_law {f : Addr} {fd : FuncData} (F : Fun K "law" "law" s_law f fd) (T : Tx mg)
    (G_law_reel : Has P w K mg base 1 "_law_reel" ["script"] (sp_law_reel K)) (G_law_draw : Has P w K mg base 1 "_law_draw" ["reel", "many"] sp_law_draw)
    (G_law_names : Has P w K mg base 2 "_law_names" ["reel", "many"] sp_law_names) (G_law_state : Has P w K mg base 2 "_law_state" ["reel", "names", "most"] sp_law_state)
    (G_law_end : Has P w K mg base 2 "_law_end" ["runs", "state"] sp_law_end) (G_law_due : Has P w K mg base 2 "_law_due" ["kinds", "one", "other"] sp_law_due)
    (G_law_dressed : Has P w K mg base 5 "_law_dressed" ["reel", "value"] (sp_law_dressed 3))
    (G_meeting_length : Has P w K mg base 4 "meeting_length" ["kinds", "one", "other"] sp_meeting_length) (G_shortest_meeting : Has P w K mg base 4 "shortest_meeting" ["kinds", "one", "other"] sp_shortest_meeting)
    (G_is_sequence : Has P w K mg base 4 "is_sequence" ["value"] sp_is_sequence) :
    FnC P w K mg base f fd ["script"] (sp_law K) := by
  refine fnC_of F sc_law (fun vs H Q E h => ?_) (fun cdv outer s H vs Q E hr h => ?_)
  · obtain ⟨_, _, rfl, _⟩ := h
    rfl
  · obtain ⟨a, ns, rfl, hS, l63, q⟩ := h
    refine ⟨_, (pss_cons (ps_set (i := 1) sc_law.nd rfl (by first | exact Or.inl rfl | exact Or.inr rfl) (pe_callH G_law_reel (hr.mono (by omega)) (by rfl) (pa_cons (pv 0) pa_nil)))
    (pss_cons (ps_for PassesOwn.never rfl (pi_range1 (by rfl) T.n_range (pa_cons (pe_op op_add pe_int (pe_callB (call_min2 rfl) (by rfl) T.n_min (by decide +kernel) (pa_cons (pe_callB call_len_seq (by rfl) T.n_len (by decide +kernel) (pa_cons (pv 0) pa_nil)) (pa_cons pe_int pa_nil)))) pa_nil)) (pg_name (i := 2) sc_law.nd rfl (by first | exact Or.inl rfl | exact Or.inr rfl))
      (pss_cons (ps_set (i := 3) sc_law.nd rfl (by first | exact Or.inl rfl | exact Or.inr rfl) (pe_callH G_law_names (hr.mono (by omega)) (by rfl) (pa_cons (pv 1) (pa_cons (pe_op op_add pe_int (pe_callH G_law_draw (hr.mono (by omega)) (by rfl) (pa_cons (pv 1) (pa_cons pe_int pa_nil)))) pa_nil))))
    (pss_cons (ps_set (i := 4) sc_law.nd rfl (by first | exact Or.inl rfl | exact Or.inr rfl) (pe_callB (cr_sortSSw (w := w) rfl rfl) (by rfl) T.n_sorted (by decide +kernel) (pa_cons (pe_callTy (cr_setSw (K := K) (w := w) rfl rfl rfl) (by rfl) T.n_set (by decide +kernel) (pa_cons (pe_op op_cat (pe_slice sl_list (pv 3) po_none (po_some (pe_op op_add pe_int (pe_callH G_law_draw (hr.mono (by omega)) (by rfl) (pa_cons (pv 1) (pa_cons pe_int pa_nil)))))) (pe_slice sl_list (pe_lst (pa_cons pe_str pa_nil)) po_none (po_some (pe_callH G_law_draw (hr.mono (by omega)) (by rfl) (pa_cons (pv 1) (pa_cons pe_int pa_nil)))))) pa_nil)) pa_nil)))
    (pss_one (ps_for PassesOwn.never rfl (pi_range1 (by rfl) T.n_range (pa_cons pe_int pa_nil)) (pg_name (i := 5) sc_law.nd rfl (by first | exact Or.inl rfl | exact Or.inr rfl))
      (pss_cons (ps_par (i := 11) (j := 12) (by rfl) sc_law.nd rfl rfl (by decide) rfl rfl (pa_cons (pe_callH G_law_state (hr.mono (by omega)) (by rfl) (pa_cons (pv 1) (pa_cons (pv 3) (pa_cons pe_int pa_nil)))) (pa_cons (pe_callH G_law_state (hr.mono (by omega)) (by rfl) (pa_cons (pv 1) (pa_cons (pv 3) (pa_cons pe_int pa_nil)))) pa_nil)) (by rfl))
    (pss_cons (ps_set (i := 6) sc_law.nd rfl (by first | exact Or.inl rfl | exact Or.inr rfl) (pe_callH G_law_due (hr.mono (by omega)) (by rfl) (pa_cons (pv 4) (pa_cons (pv 11) (pa_cons (pv 12) pa_nil)))))
    (pss_cons (ps_set (i := 7) sc_law.nd rfl (by first | exact Or.inl rfl | exact Or.inr rfl) (pe_callH G_law_dressed (hr.mono (by omega)) (by rfl) (pa_cons (pv 1) (pa_cons (pe_lst (pa_cons (pv 4) (pa_cons (pv 11) (pa_cons (pv 12) pa_nil)))) pa_nil))))
    (pss_cons (ps_set (i := 8) sc_law.nd rfl (by first | exact Or.inl rfl | exact Or.inr rfl) (pe_callB (call_reprD (by rfl) (room70 hr)) (by rfl) T.n_repr (by decide +kernel) (pa_cons (pe_lst (pa_cons (pv 4) (pa_cons (pv 11) (pa_cons (pv 12) (pa_cons (pv 7) pa_nil))))) pa_nil)))
    (pss_cons (ps_set (i := 9) sc_law.nd rfl (by first | exact Or.inl rfl | exact Or.inr rfl) (pe_lst (pa_cons (pe_callH G_meeting_length (hr.mono (by omega)) (by rfl) (pa_cons (pv 4) (pa_cons (pv 11) (pa_cons (pv 12) pa_nil)))) (pa_cons (pe_callH G_meeting_length (hr.mono (by omega)) (by rfl) (pa_cons (pe_ix ix_seq (pv 7) pe_int (fun _ _ => rfl)) (pa_cons (pe_ix ix_seq (pv 7) pe_int (fun _ _ => rfl)) (pa_cons (pe_ix ix_seq (pv 7) pe_int (fun _ _ => rfl)) pa_nil)))) pa_nil))))
    (pss_cons (ps_if (pt_cmpR op_ne (pe_callB (call_reprD (by rfl) (room70 hr)) (by rfl) T.n_repr (by decide +kernel) (pa_cons (pv 9) pa_nil)) (pe_callB (call_reprD (by rfl) (room70 hr)) (by rfl) T.n_repr (by decide +kernel) (pa_cons (pe_lst (pa_cons (pv 6) (pa_cons (pv 6) pa_nil))) pa_nil)) (nomark _)) (pss_one (ps_ret pe_bl)) pss_nil)
    (C8.pss_cut (ps_set (i := 10) sc_law.nd rfl (by first | exact Or.inl rfl | exact Or.inr rfl) (pe_callH G_shortest_meeting (hr.mono (by omega)) (by rfl) (pa_cons (pv 4) (pa_cons (pv 11) (pa_cons (pv 12) pa_nil)))))
    (pss_cons (ps_if (PW.pt (pw_or (pt_cmpR op_ne (pe_cmpR op_isN (pv 10) pe_non (nomark _)) (pe_cmpR op_isN (pv 6) pe_non (nomark _)) (nomark _)) (pw_or1 (pt_cmpR op_ne (pe_callB (call_reprD (by rfl) (room70 hr)) (by rfl) T.n_repr (by decide +kernel) (pa_cons (pe_lst (pa_cons (pv 4) (pa_cons (pv 11) (pa_cons (pv 12) (pa_cons (pv 7) pa_nil))))) pa_nil)) (pv 8) (nomark _))))) (pss_one (ps_ret pe_bl)) pss_nil)
    (pss_one (ps_if (pt_cmpR op_notN (pv 10) pe_non (nomark _)) (pss_cons (ps_if (PW.pt (pw_or (pt_not (pt_val (pe_callH G_is_sequence (hr.mono (by omega)) (by rfl) (pa_cons (pv 10) pa_nil)))) (pw_or1 (pt_cmpR op_ne (pe_callB (cr_sum rfl) (by rfl) T.n_sum (by decide +kernel) (pa_cons (pe_lc (own := [("run", 13)]) rfl sc_law.nd (pi_list (pv 10)) (blkOk_by (N := ["script", "reel", "k", "names", "kinds", "turn", "due", "dressed", "kept", "found", "runs", "one", "other", "run"]) (sc := defScope s_law) (by decide +kernel)) (fun _ _ _ _ _ => (pg_name (i := 13) sc_law.nd rfl (by first | exact Or.inl rfl | exact Or.inr rfl))) (fun _ _ _ _ _ => pts_nil) (fun _ _ _ _ _ => (pe_ix (ix_tupK (K := K) rfl) (pv 13) pe_int (fun _ _ => rfl)))) pa_nil)) (pv 6) (nomark _))))) (pss_one (ps_ret pe_bl)) pss_nil)
    (pss_cons (ps_if (PW.pt (pw_or (pt_cmpR (op_neD hr.units) (pe_lc (own := [("run", 13)]) rfl sc_law.nd (pi_list (pv 10)) (blkOk_by (N := ["script", "reel", "k", "names", "kinds", "turn", "due", "dressed", "kept", "found", "runs", "one", "other", "run"]) (sc := defScope s_law) (by decide +kernel)) (fun _ _ _ _ _ => (pg_name (i := 13) sc_law.nd rfl (by first | exact Or.inl rfl | exact Or.inr rfl))) (fun _ _ _ _ _ => pts_one (pt_cmpR (op_notIn_seqK (K := K) rfl) (pe_ix (ix_tupK (K := K) rfl) (pv 13) pe_int (fun _ _ => rfl)) (pv 4) (by with_unfolding_all rfl))) (fun _ _ _ _ _ => (pv 13))) (pe_lst pa_nil) (nomark _)) (pw_or1 (pt_cmpR (op_neD hr.units) (pe_callH G_law_end (hr.mono (by omega)) (by rfl) (pa_cons (pv 10) (pa_cons (pv 11) pa_nil))) (pe_callH G_law_end (hr.mono (by omega)) (by rfl) (pa_cons (pv 10) (pa_cons (pv 12) pa_nil))) (nomark _))))) (pss_one (ps_ret pe_bl)) pss_nil)
    (pss_one (ps_expr (pe_bm PySem.F.plainAttrs_list PySem.F.slot_list_append PySem.F.type_list_append mt_append (pv 10) (pa_cons pe_non pa_nil)))))) pss_nil)))))))))))))))
    (pss_one (ps_ret pe_bl)))), ?_⟩
    refine ⟨_, rfl, a, ns, rfl, hS, fun H1 p s1 np z1 => ?_⟩
    refine ⟨_, rfl, a, _, rfl, .inl (s1.seq hS), _, _, rfl, _, _, rfl, rfl, _, rfl, ?_, ?_, for_range (lo := 0) (n := _) (fun i σ H' => ∃ y2 y3 y4 y5 y6 y7 y8 y9 y10 y11 y12 y13, σ = [some (.ref a), some (.ref p), y2, y3, y4, y5, y6, y7, y8, y9, y10, y11, y12, y13] ∧ Reel H' p)
      ⟨none, none, none, none, none, none, none, none, none, none, none, none, rfl, z1⟩ (fun i σ H2 hi hP => ?_) (fun σ H2 hP => q _)⟩
    · rw [List.length_map]
      split <;> omega
    · rw [List.length_map]
      split <;> omega
    obtain ⟨y2, y3, y4, y5, y6, y7, y8, y9, y10, y11, y12, y13, rfl, z2⟩ := hP
    clear z1
    -- names
    refine ⟨_, rfl, _, rfl, p, 4, rfl, z2, by decide, by decide, fun H3 r b3 z3 r0 r1 => ⟨_, _, rfl, rfl, p, _, rfl, z3, (by show 0 ≤ 1 + r; omega), (by show 1 + r ≤ 13; omega), fun H4 l ks b4 z4 nl hl ol lk okk ndk => ?_⟩⟩
    have lk1 : 0 < ks.length ∧ ks.length ≤ 4 := by
      have lk : ((ks.length : Nat) : Int) = 1 + r := lk
      omega
    clear b3 z3 b4 z2 lk ol nl ndk
    -- kinds
    refine ⟨_, rfl, _, rfl, p, 4, rfl, z4, by decide, by decide, fun H5 r5 b5 z5 r50 r51 => ⟨_, _, rfl, rfl, _, rfl, l, _, rfl, SqL.of (b5.strs z4 hl), fun c nc => ?_⟩⟩
    obtain ⟨ms, em, m0, m1, mm⟩ := cut_strs ks (1 + r5).toNat lk1.1 (by omega)
    rw [show (((1 + r5).toNat : Nat) : Int) = 1 + r5 by omega] at em
    rw [em]
    have sc := same_upd (o := .lst (ms.map V.str)) nc
    have hc := (upd_same : (upd H5 c (.lst (ms.map V.str))) c = some (.lst (ms.map V.str)))
    have hl6 := sc _ _ (b5.strs z4 hl)
    have z6 := z5.same sc
    obtain ⟨H6, eH⟩ : ∃ H6, upd H5 c (.lst (ms.map V.str)) = H6 := ⟨_, rfl⟩
    rw [eH] at sc hc hl6 z6 ⊢
    clear eH sc nc b5 z5 z4 hl em
    refine ⟨(by show 1 ≤ sizeLine; decide), fun e ne => ?_⟩
    have se := same_upd (o := .lst [.str "other"]) ne
    have nep := z6.ne ne
    refine ⟨_, rfl, p, 2, rfl, z6.same se, by decide, by decide, fun H7 r7 b7 z7 r70 r71 => ?_⟩
    have he7 := b7.but _ _ nep (upd_same : (upd H6 e (.lst [.str "other"])) e = some (.lst [.str "other"]))
    have hc7 := b7.strs (z6.same se) (se _ _ hc)
    have hl7 := b7.strs (z6.same se) (se _ _ hl6)
    refine ⟨_, rfl, e, _, rfl, SqL.of he7, fun g ng => ?_⟩
    obtain ⟨os, eo, lo, oo⟩ : ∃ os : List Str, cutV [V.str "other"] none (some r7) = os.map V.str ∧ os.length ≤ 1 ∧ ∀ s ∈ os, s = "other" := by
      rcases (show r7 = 0 ∨ r7 = 1 by omega) with z | z
      · rw [z]
        exact ⟨[], rfl, by decide, fun s h => by cases h⟩
      · rw [z]
        exact ⟨["other"], rfl, by decide, fun s h => List.mem_singleton.mp h⟩
    rw [eo]
    have sg := same_upd (o := .lst (os.map V.str)) ng
    refine ⟨c, g, _, _, rfl, rfl, sg _ _ hc7, upd_same, smallE (by simp only [List.length_map]; omega), fun m nm => ?_⟩
    rw [← List.map_append]
    have sm := same_upd (o := .lst ((ms ++ os).map V.str)) nm
    refine ⟨m, ms ++ os, rfl, .of upd_same, (by show (ms ++ os).length + 1 < 4096; rw [List.length_append]; omega), fun pS nps => ⟨pS, _, rfl, upd_same, ?_, fun kd pk pm so npk => ?_⟩⟩
    · have := setS_len (ms ++ os)
      rw [List.length_append] at this
      omega
    have hl8 := ((sg.trans sm).trans ((same_upd (o := StS w pS (setS (ms ++ os))) nps).trans (same_upd (o := .lst (kd.map V.str)) npk))) _ _ hl7
    have z8 := z7.same ((sg.trans sm).trans ((same_upd (o := StS w pS (setS (ms ++ os))) nps).trans (same_upd (o := .lst (kd.map V.str)) npk)))
    have hk8 : (upd (upd (upd (upd H7 g (.lst (os.map V.str))) m (.lst ((ms ++ os).map V.str))) pS (StS w pS (setS (ms ++ os)))) pk (.lst (kd.map V.str))) pk = some (.lst (kd.map V.str)) := upd_same
    obtain ⟨H8, eH⟩ : ∃ H8, upd (upd (upd (upd H7 g (.lst (os.map V.str))) m (.lst ((ms ++ os).map V.str))) pS (StS w pS (setS (ms ++ os)))) pk (.lst (kd.map V.str)) = H8 := ⟨_, rfl⟩
    rw [eH] at hl8 z8 hk8 ⊢
    clear eH npk nps sm nm sg eo ng hl7 hc7 he7 b7 z7 nep se ne z6 hl6 hc
    have okd : ∀ s ∈ kd, KindOk s := fun s hs => by
      have := setS_mem.mp (pm.mem_iff.mp hs)
      rcases List.mem_append.mp this with h | h
      · exact okk s (mm s h)
      · rw [oo s h]
        exact other_ok
    have lkd : 0 < kd.length ∧ kd.length ≤ 12 := by
      rw [pm.length_eq]
      have h1 := setS_len (ms ++ os)
      rw [List.length_append] at h1
      refine ⟨?_, by omega⟩
      cases hms : ms with
      | nil => rw [hms] at m0; cases m0
      | cons x t => exact List.length_pos_of_mem (setS_mem.mpr (List.mem_append_left _ (List.mem_cons_self ..)))
    have okK : KsOk kd := ks_of lkd.1 lkd.2 okd ⟨pm.nodup_iff.mpr (setS_nodup _), so⟩
    refine ⟨3, rfl, by decide, by decide, for_range (lo := 0) (n := 3) (fun j σ H' => ∃ y5 y6 y7 y8 y9 y10 y11 y12 y13, σ = [some (.ref a), some (.ref p), some (.int (0 + i)), some (.ref l), some (.ref pk), y5, y6, y7, y8, y9, y10, y11, y12, y13] ∧ Reel H' p ∧ H' l = some (.lst (ks.map V.str)) ∧ H' pk = some (.lst (kd.map V.str)))
      ⟨_, _, _, _, _, _, _, _, _, rfl, z8, hl8, hk8⟩ (fun j σ H9 hj hP => ?_) (fun σ H9 hP => ?_)⟩
    · clear z8 hl8 hk8
      obtain ⟨y5, y6, y7, y8, y9, y10, y11, y12, y13, rfl, z9, hl9, hk9⟩ := hP
      refine ⟨_, rfl, _, rfl, p, l, ks, 5, rfl, z9, hl9, lk1.1, by omega, okk, by decide, by decide, fun H10 v1 a1 b10 z10 hv1 so1 bd1 => ?_⟩
      have hl10 := b10.strs z9 hl9
      have hk10 := b10.strs z9 hk9
      refine ⟨_, rfl, _, rfl, p, l, ks, 5, rfl, z10, hl10, lk1.1, by omega, okk, by decide, by decide, fun H11 v2 a2 b11 z11 hv2 so2 bd2 => ?_⟩
      have hl11 := b11.strs z10 hl10
      have hk11 := b11.strs z10 hk10
      have hv1 := b11.st z10 hv1
      clear b10 b11 z9 z10 hl9 hk9 hl10 hk10
      refine ⟨_, _, rfl, ?_⟩
      have p1 : PosO a1 := fun r e => (so1 r e).2
      have p2 : PosO a2 := fun r e => (so2 r e).2
      have n1 : numR a1 ≤ 10 := by
        cases a1 with
        | none => show (0 : Int) ≤ 10; decide
        | some r => have := bd1 r rfl; show r.2 ≤ 10; omega
      have n2 : numR a2 ≤ 10 := by
        cases a2 with
        | none => show (0 : Int) ≤ 10; decide
        | some r => have := bd2 r rfl; show r.2 ≤ 10; omega
      have g1 : ∀ r, a1 = some r → KindOk r.1 ∧ r.2.natAbs < 10 ^ 60 := fun r e => ⟨(so1 r e).1, by have := (so1 r e).2; have := bd1 r e; omega⟩
      have g2 : ∀ r, a2 = some r → KindOk r.1 ∧ r.2.natAbs < 10 ^ 60 := fun r e => ⟨(so2 r e).1, by have := (so2 r e).2; have := bd2 r e; omega⟩
      have mxb : mxR a1 a2 ≤ 10 := by
        unfold mxR
        split <;> omega
      have mx0 : 0 ≤ mxR a1 a2 := by
        have h1 := num_nn p1
        have h2 := num_nn p2
        unfold mxR
        split <;> omega
      refine ⟨_, rfl, _, rfl, _, rfl, pk, v1, v2, kd, a1, a2, rfl, hk11, lkd.2, okd, hv1, hv2, so1, so2, n1, n2, fun H12 s12 => ?_⟩
      have hl12 := s12 _ _ hl11
      have hk12 := s12 _ _ hk11
      have hv1 := hv1.same s12
      have hv2 := hv2.same s12
      have z12 := z11.same s12
      clear hl11 hk11 z11 s12
      -- dressed
      refine ⟨_, rfl, _, rfl, _, rfl, _, rfl, (by show 3 ≤ sizeLine; decide), fun l4 nl4 => ?_⟩
      have s13 := same_upd (o := .lst [.ref pk, v1, v2]) nl4
      have nl4p := z12.ne nl4
      have z13 := z12.same s13
      have klp : pk ≠ p := by
        intro e
        obtain ⟨_, _, _, _, _, _, hz, _⟩ := z12
        rw [e, hz] at hk12
        cases hkd : kd with
        | nil =>
          rw [hkd] at hk12
          cases hk12
        | cons x t =>
          rw [hkd] at hk12
          cases hk12
      refine ⟨p, .ref l4, .list [.list (kd.map PyData.str), dSt a1, dSt a2], rfl, z13, .inr ⟨l4, _, _, rfl, nl4p, .inl upd_same, rfl, .cons (simR_strs klp (s13 _ _ hk12) (by omega)) (.cons (simR_st z13 (hv1.same s13)) (.cons (simR_st z13 (hv2.same s13)) .nil)), Nat.le_of_ble_eq_true rfl⟩, fun H14 wd b14 z14 h14 => ?_⟩
      have hl14 := b14.strs z13 (s13 _ _ hl12)
      have hk14 := b14.strs z13 (s13 _ _ hk12)
      have hv1 := b14.st z13 (hv1.same s13)
      have hv2 := b14.st z13 (hv2.same s13)
      obtain ⟨d0, w0, w1, w2, rfl, hd0, e0, e1, e2⟩ := sim_three h14
      obtain ⟨b0, rfl, hw0⟩ := sim_strs e0
      have hw1 := sim_stg e1
      have hw2 := sim_stg e2
      clear b14 z13 s13 z12 hl12 hk12 e0 e1 e2 h14 nl4 nl4p klp
      -- kept
      obtain ⟨q0, Q0, c0⟩ := dps_strs (K := K) (.inl hk14) okd lkd.2
      obtain ⟨q1, Q1, c1⟩ := dps_stN (K := K) hv1.dress g1
      obtain ⟨q2, Q2, c2⟩ := dps_stN (K := K) hv2.dress g2
      obtain ⟨q3, Q3, c3⟩ := dps_seq (K := K) (a := d0) (xs := [.ref b0, w1, w2]) (w := 404) (n := 1) hd0 fun x hx => by
        rcases List.mem_cons.mp hx with e | e
        · rw [e]
          obtain ⟨d, h1, h2⟩ := dps_strs (K := K) hw0 okd lkd.2
          exact ⟨d, h1, h2.mono (by decide) (by decide)⟩
        · rcases List.mem_cons.mp e with e | e
          · rw [e]
            exact dps_stN (K := K) hw1 g1
          · rw [List.mem_singleton.mp e]
            exact dps_stN (K := K) hw2 g2
      have c3 : Nice 1215 2 q3 := c3.mono (by show (404 + 1) * 3 ≤ 1215; decide) (Nat.le_refl _)
      have nd4 : Nice ((1215 + 1) * 4) 3 (.list [q0, q1, q2, q3]) := nice_list (ds := [q0, q1, q2, q3]) fun d hd => by
        rcases List.mem_cons.mp hd with e | e
        · rw [e]
          exact c0.mono (by decide) (by decide)
        · rcases List.mem_cons.mp e with e | e
          · rw [e]
            exact c1.mono (by decide) (by decide)
          · rcases List.mem_cons.mp e with e | e
            · rw [e]
              exact c2.mono (by decide) (by decide)
            · rw [List.mem_singleton.mp e]
              exact c3.mono (by decide) (by decide)
      obtain ⟨f1, f2, f3⟩ := nd4.fits (by decide) (by decide)
      have four : ∀ {H' : Hp} {x : Addr}, Same H14 H' → H' x = some (.lst [.ref pk, v1, v2, .ref d0]) → Dp K H' (.ref x) (.list [q0, q1, q2, q3]) := fun s h => .lst (.of h) (.cons (Q0 _ s) (.cons (Q1 _ s) (.cons (Q2 _ s) (.cons (Q3 _ s) .nil))))
      refine ⟨_, rfl, _, rfl, _, rfl, _, rfl, (by show 4 ≤ sizeLine; decide), fun l5 nl5 => ⟨l5, _, rfl, four (same_upd nl5) upd_same, f1, f2, f3, ?_⟩⟩
      have s15 := same_upd (o := .lst [.ref pk, v1, v2, .ref d0]) nl5
      generalize upd H14 l5 (.lst [.ref pk, v1, v2, .ref d0]) = H15 at *
      -- the lengths
      refine ⟨_, rfl, _, rfl, _, rfl, pk, kd, v1, v2, a1, a2, rfl, .inl (s15 _ _ hk14), okK, (hv1.same s15).dress, (hv2.same s15).dress, so1, so2, fun H16 s16 => ?_⟩
      have s1416 := s15.trans s16
      have hd16 := Sq2.same s1416 hd0
      refine ⟨_, rfl, atS hd16 rfl ⟨_, rfl, atS hd16 rfl ⟨_, rfl, atS hd16 rfl ⟨b0, kd, w2, w1, a2, a1, rfl, hw0.same s1416, okK, hw2.same s1416, hw1.same s1416, so2, so1, fun H17 s17 => ?_⟩⟩⟩⟩
      rw [due_comm kd a2 a1]
      have dbd : ∀ x, dueR kd a1 a2 = some x → 0 ≤ x ∧ x ≤ 100 := fun x e => by
        by_cases ab : a1 = a2
        · rw [ab, due_eq] at e
          cases e
          exact ⟨by decide, by decide⟩
        · by_cases cm : CanM kd a1 a2
          · rw [due_can ab cm] at e
            cases e
            exact ⟨mx0, by omega⟩
          · rw [due_not ab cm] at e
            cases e
      obtain ⟨wo, lwo, nO⟩ := nice_oi dbd
      obtain ⟨x1, x2, x3⟩ := nO.fits (by omega) (by decide)
      refine ⟨(by show 2 ≤ sizeLine; decide), fun l6 nl6 => ?_⟩
      refine ⟨_, rfl, l6, _, rfl, .lst (.of upd_same) (.cons (dp_oi _) (.cons (dp_oi _) .nil)), x1, x2, x3, ?_⟩
      have s18 := same_upd (o := .lst [oV (dueR kd a1 a2), oV (dueR kd a1 a2)]) nl6
      generalize upd H17 l6 (.lst [oV (dueR kd a1 a2), oV (dueR kd a1 a2)]) = H18 at *
      refine ⟨_, rfl, _, rfl, (by show 2 ≤ sizeLine; decide), fun l7 nl7 => ?_⟩
      have s19 := same_upd (o := .lst [oV (dueR kd a1 a2), oV (dueR kd a1 a2)]) nl7
      refine ⟨l7, _, rfl, .lst (.of upd_same) (.cons (dp_oi _) (.cons (dp_oi _) .nil)), x1, x2, x3, rfl, _, rfl, iteN (by rw [decide_eq_true rfl]; rfl) ?_⟩
      generalize upd H18 l7 (.lst [oV (dueR kd a1 a2), oV (dueR kd a1 a2)]) = H19 at *
      have s1419 := s1416.trans (s17.trans (s18.trans s19))
      have hk19 := s1419 _ _ hk14
      have hv1 := hv1.same s1419
      have hv2 := hv2.same s1419
      have hl19 := s1419 _ _ hl14
      have z19 := z14.same s1419
      clear s15 s16 s17 s18 s19 nl5 nl6 nl7 s1416 hd16 x1 x2 x3 nO
      -- runs
      refine ⟨fun σ' H' => ∃ rv, σ' = [some (.ref a), some (.ref p), some (.int (0 + (i : Int))), some (.ref l), some (.ref pk), some (.int (0 + (j : Int))), some (oV (dueR kd a1 a2)), some (.ref d0), some (.str (PyData.list [q0, q1, q2, q3]).shown), some (.ref l6), some rv, some v1, some v2, y13] ∧ Same H19 H' ∧ ((rv = .non ∧ dueR kd a1 a2 = none) ∨ ∃ pr rs, rv = .ref pr ∧ H19 pr = none ∧ Runs H' pr rs ∧ SeqOk rs ∧ rs.length ≤ 2 ∧ (∀ r ∈ rs, r.1 ∈ kd) ∧ stR rs a1 = stR rs a2 ∧ dueR kd a1 a2 = some (lenR rs)), ?_, fun σ' H20 hM => ?_⟩
      · refine ⟨_, rfl, _, rfl, _, rfl, pk, kd, v1, v2, a1, a2, rfl, .inl hk19, okK, hv1.dress, hv2.dress, so1, so2, by omega, fun e H' pr s n h => ?_, fun e => ⟨fun c H' s => ?_, fun c H' pr rs s n h m => ?_⟩⟩
        · refine ⟨_, rfl, s, .inr ⟨pr, [], rfl, n, h, ⟨Nat.zero_le _, (fun r h => by cases h), (fun i x y h => by simp at h)⟩, by decide, (fun r h => by cases h), by rw [e], ?_⟩⟩
          rw [e, due_eq]
          rfl
        · exact ⟨_, rfl, s, .inl ⟨rfl, due_not e c⟩⟩
        · exact ⟨_, rfl, s, .inr ⟨pr, rs, rfl, n, h, seq_meet okd (by omega) m, m.2.2.1, fun r hr => (m.1 r hr).1, by rw [m.2.2.2.2.1, m.2.2.2.2.2.1], by rw [due_can e c, m.2.2.2.1]⟩⟩
      obtain ⟨rv, rfl, s20, cs⟩ := hM
      have s1420 := s1419.trans s20
      have fk : ∀ {x : Addr}, H20 x = none → Dp K (upd H20 x (.lst [.ref pk, v1, v2, .ref d0])) (.ref x) (.list [q0, q1, q2, q3]) := fun n => four (s1420.trans (same_upd n)) upd_same
      rcases cs with ⟨rfl, dn⟩ | ⟨pr, rs, rfl, npr, hrs, okS, rs2, kin, se, ds⟩
      · rw [dn]
        refine ⟨_, rfl, rfl, _, rfl, rfl, rfl, _, rfl, iteN rfl ?_⟩
        refine ⟨_, rfl, _, rfl, _, rfl, _, rfl, (by show 4 ≤ sizeLine; decide), fun l8 nl8 => ⟨l8, _, rfl, fk nl8, f1, f2, f3, _, rfl, rfl, _, rfl, iteN (by rw [decide_eq_true rfl]; rfl) ?_⟩⟩
        refine ⟨_, rfl, rfl, _, rfl, iteN rfl ?_⟩
        have sE := s20.trans (same_upd (o := .lst [.ref pk, v1, v2, .ref d0]) nl8)
        exact ⟨_, _, _, _, _, _, _, _, _, rfl, z19.same sE, sE _ _ hl19, sE _ _ hk19⟩
      · rw [ds]
        have pos : ∀ r ∈ rs, 1 ≤ r.2 := fun r hr => (okS.2.1 r hr).2.1
        refine ⟨_, rfl, rfl, _, rfl, rfl, rfl, _, rfl, iteN rfl ?_⟩
        refine ⟨_, rfl, _, rfl, _, rfl, _, rfl, (by show 4 ≤ sizeLine; decide), fun l8 nl8 => ⟨l8, _, rfl, fk nl8, f1, f2, f3, _, rfl, rfl, _, rfl, iteN (by rw [decide_eq_true rfl]; rfl) ?_⟩⟩
        have s21 := same_upd (o := .lst [.ref pk, v1, v2, .ref d0]) nl8
        have h21 := hrs.same s21
        have s1921 := s20.trans s21
        generalize upd H20 l8 (.lst [.ref pk, v1, v2, .ref d0]) = H21 at *
        refine ⟨_, rfl, rfl, _, rfl, iteP rfl ?_⟩
        refine ⟨_, rfl, .ref pr, rs, rfl, h21.dress, okS, fun H22 s22 => ⟨_, rfl, iteN rfl ?_⟩⟩
        have h22 := h21.same s22
        have s1922 := s1921.trans s22
        obtain ⟨xs, hx, hpr⟩ := id h22
        have lx : xs.length = rs.length := Paired.len hpr
        refine ⟨_, rfl, pr, rfl, ⟨xs, .of hx⟩, fun M nM => lc_list (K := K) (a := pr) (xs := xs) (fun k H' => Same H22 H' ∧ H' M = some (.lst (((rs.map (·.2)).take k).map V.int))) ⟨same_upd nM, upd_same⟩ (fun k H' _ p => .of (p.1 _ _ hx)) (fun k y H23 ey hP => ?_) (fun H23 hP => ?_)⟩
        · obtain ⟨s23, hM⟩ := hP
          obtain ⟨r, er, hr1⟩ := Paired.at hpr ey
          obtain ⟨tr, rfl, htr⟩ := RunV.same s23 hr1
          refine ⟨rfl, yesT ⟨_, rfl, tr, _, _, _, rfl, rfl, .of htr, at1, _, hM, ?_, same_grow nM s23, ?_⟩⟩
          · simp only [List.length_map, List.length_take]
            exact small (by omega)
          · rw [upd_same, take_snoc (x := r.2) (by rw [List.getElem?_map, er]; rfl), List.map_append]
            rfl
        obtain ⟨s23, hM⟩ := hP
        rw [List.take_of_length_le (by rw [List.length_map]; omega)] at hM
        refine ⟨M, _, rfl, .of hM, _, rfl, rfl, _, rfl, iteN ?_ ?_⟩
        · rw [sum_lenP, decide_eq_true (show V.int (lenR rs) = oV (some (lenR rs)) from rfl)]
          rfl
        have h23 := h22.same s23
        have hx23 := s23 _ _ hx
        have hk23 := s23 _ _ (s1922 _ _ hk19)
        refine ⟨_, rfl, pr, rfl, ⟨xs, .of hx23⟩, fun M2 nM2 => lc_list (K := K) (a := pr) (xs := xs) (fun k H' => Same H23 H' ∧ H' M2 = some (.lst [])) ⟨same_upd nM2, upd_same⟩ (fun k H' _ p => .of (p.1 _ _ hx23)) (fun k y H24 ey hP => ?_) (fun H24 hP => ?_)⟩
        · obtain ⟨s24, hM2⟩ := hP
          obtain ⟨r, er, hr1⟩ := Paired.at hpr ey
          obtain ⟨tr, rfl, htr⟩ := RunV.same (s23.trans s24) hr1
          refine ⟨rfl, _, rfl, tr, _, 0, _, rfl, rfl, .of htr, at0, _, rfl, pk, _, rfl, .inl (.of (s24 _ _ hk23)), rfl, flat_strs kd, _, rfl, iteN ?_ ⟨s24, hM2⟩⟩
          rw [in_strs (kin r (List.mem_of_getElem? er))]
          rfl
        obtain ⟨s24, hM2⟩ := hP
        refine ⟨Nat.zero_le _, fun e1 ne1 => ?_⟩
        have s25 := same_upd (o := .lst []) ne1
        refine ⟨.list [], .list [], .lst (.of (s25 _ _ hM2)) .nil, .lst (.of upd_same) .nil, shaped_nil, shaped_nil, _, rfl, iteN (by rw [eqv_nnR]; rfl) ?_⟩
        have s1925 := s1922.trans (s23.trans (s24.trans s25))
        have h25 := (h23.same s24).same s25
        generalize upd H24 e1 (.lst []) = H25 at *
        refine ⟨_, rfl, _, rfl, pr, rs, v1, a1, rfl, h25, pos, hv1.same s1925, fun H26 w3 s26 hw3 => ⟨_, rfl, _, rfl, pr, rs, v2, a2, rfl, h25.same s26, pos, (hv2.same s1925).same s26, fun H27 w4 s27 hw4 => ?_⟩⟩
        have okE : ∀ st, StOk st → StOk (stR rs st) := fun st so => by
          rw [st_items rs st (fun r e => (so r e).2) pos]
          have gen : ∀ (l : List Str) (s : Option Run), (∀ x ∈ l, KindOk x) → StOk s → StOk (stI l s) := by
            intro l
            induction l with
            | nil => intro s _ h; exact h
            | cons x t ih => intro s hx h; exact ih _ (fun y hy => hx y (List.mem_cons_of_mem _ hy)) (stOk_stepC h (hx x (List.mem_cons_self ..)) (by decide))
          refine gen _ _ (fun x hx => ?_) so
          obtain ⟨r, hr, hk⟩ := List.mem_flatMap.mp hx
          rw [List.eq_of_mem_replicate hk]
          exact okd _ (kin r hr)
        refine ⟨_, _, dp_o (hw3.same s27), dp_o hw4, shaped_o (okE a1 so1), shaped_o (okE a2 so2), _, rfl, iteN (by rw [eqv_o, se, decide_eq_true rfl]; rfl) ?_⟩
        have s1927 := s1925.trans (s26.trans s27)
        obtain ⟨ys, hy, hyp⟩ := (h25.same s26).same s27
        refine ⟨_, rfl, .inl ⟨rfl, _, SqL.of hy⟩, pr, _, _, rfl, rfl, hy, small (by rw [Paired.len hyp]; omega), ?_⟩
        have sE : Same H19 (upd H27 pr (.lst (ys ++ [.non]))) := fun x o e => by
          rw [upd_ne (ne_of_none e npr)]
          exact s1927 _ _ e
        exact ⟨_, _, _, _, _, _, _, _, _, rfl, z19.same sE, sE _ _ hl19, sE _ _ hk19⟩
    · obtain ⟨_, _, _, _, _, _, _, _, _, rfl, z9, _, _⟩ := hP
      exact ⟨_, _, _, _, _, _, _, _, _, _, _, _, rfl, z9⟩
end
end UP

set_option Elab.async false
set_option linter.all false
set_option maxRecDepth 100000
set_option maxHeartbeats 4000000
namespace UP
open PySem PySem.Spec PyProof.Rows L2
section
variable {K : PySem.W.Frag} {h : Heap} {mg : Str → Option Value}
theorem df_mk {x : Str} {st : Stmt} {f : Addr} {od an : Option Addr} {sl : Array (Option Value)} {oc kV dc pm cd ct : Value} (X : K.In h) (G : h.Ns mainGlobals mg) (a : PySem.W.nsIn K mainGlobals x = some (some (.ref f)))
    (l : K.lookup f = some ⟨oc, od, .func (PySem.W.fnOf x x (defArgs st) (defBody st) (defScope st) .none kV dc pm an cd ct), sl⟩) (c : PySem.W.codeIn K cd x = true) (k : PySem.W.keepIn K (.ref f) = true) : Df K mg x st :=
  ⟨f, _, PySem.W.mg_of X G a, fun_mk l c k⟩
theorem dfd_mk {x : Str} {st : Stmt} {f T : Addr} {od an od2 : Option Addr} {sl sl2 : Array (Option Value)} {n2 : Nat} {oc kV dc pm cd ct oc2 : Value} (X : K.In h) (G : h.Ns mainGlobals mg) (a : PySem.W.nsIn K mainGlobals x = some (some (.ref f)))
    (l : K.lookup f = some ⟨oc, od, .func (PySem.W.fnOf x x (defArgs st) (defBody st) (defScope st) (.ref T) kV dc pm an cd ct), sl⟩) (t : K.lookup T = some ⟨oc2, od2, .seq #[.none] n2, sl2⟩) (c : PySem.W.codeIn K cd x = true) (k : PySem.W.keepIn K (.ref f) = true) : DfD K mg x st [.non] :=
  ⟨f, _, PySem.W.mg_of X G a, ⟨⟨oc, od, _, kV, dc, pm, an, cd, ct, sl, rfl, l, c, .inr ⟨(by intro z; cases z), T, _, [.none], n2, rfl, t, rfl, .cons rfl .nil⟩, .inl rfl⟩, k⟩⟩
theorem cst_mk {x : Str} {i : Int} {t : Tok} (X : K.In h) (G : h.Ns mainGlobals mg) (a : PySem.W.nsIn K mainGlobals x = some (some (.int i t))) : ∃ t, mg x = some (.int i t) := ⟨t, PySem.W.mg_of X G a⟩
end
/-- all that the top has written -/
structure Top (K : PySem.W.Frag) (mg : Str → Option Value) : Prop where
  T : Tx mg
  d_is_whole : Df K mg "is_whole" s_is_whole
  d_is_within : Df K mg "is_within" s_is_within
  d_is_listed : Df K mg "is_listed" s_is_listed
  d_is_couple : Df K mg "is_couple" s_is_couple
  d_is_kind : Df K mg "is_kind" s_is_kind
  d_is_kinds : Df K mg "is_kinds" s_is_kinds
  d_is_run : Df K mg "is_run" s_is_run
  d_is_sequence : Df K mg "is_sequence" s_is_sequence
  d_is_state : Df K mg "is_state" s_is_state
  d_check_kinds : Df K mg "check_kinds" s_check_kinds
  d_checked_state : Df K mg "checked_state" s_checked_state
  d_length_of : Df K mg "length_of" s_length_of
  d_waiting_number : Df K mg "waiting_number" s_waiting_number
  d_kind_of : Df K mg "kind_of" s_kind_of
  d_meeting_of : Df K mg "meeting_of" s_meeting_of
  d_meeting_length : Df K mg "meeting_length" s_meeting_length
  d_shortest_meeting : Df K mg "shortest_meeting" s_shortest_meeting
  d_law_reel : Df K mg "_law_reel" s_law_reel
  d_law_draw : Df K mg "_law_draw" s_law_draw
  d_law_names : Df K mg "_law_names" s_law_names
  d_law_state : Df K mg "_law_state" s_law_state
  d_law_step : Df K mg "_law_step" s_law_step
  d_law_end : Df K mg "_law_end" s_law_end
  d_law_dressed : Df K mg "_law_dressed" s_law_dressed
  d_law_due : Df K mg "_law_due" s_law_due
theorem Top.law {P : Program} {w : World} {K : PySem.W.Frag} {mg : Str → Option Value} (Y : Top K mg) {f : Addr} {fd : FuncData} (F : Fun K "law" "law" s_law f fd) (base : Heap) : FnC P w K mg base f fd ["script"] (sp_law K) := by
  have T := Y.T
  have g_is_whole := ok_is_whole (P := P) (w := w) (base := base) Y.d_is_whole T
  have g_is_within := ok_is_within (P := P) (w := w) (base := base) Y.d_is_within g_is_whole
  have g_is_listed := ok_is_listed (P := P) (w := w) (base := base) Y.d_is_listed T
  have g_is_couple := ok_is_couple (P := P) (w := w) (base := base) Y.d_is_couple T
  have g_is_kind := ok_is_kind (P := P) (w := w) (base := base) Y.d_is_kind T
  have g_is_run := ok_is_run (P := P) (w := w) (base := base) Y.d_is_run T g_is_couple g_is_kind g_is_within
  have g_is_state := ok_is_state (P := P) (w := w) (base := base) Y.d_is_state T g_is_couple g_is_kind g_is_whole
  have g_is_sequence := ok_is_sequence (P := P) (w := w) (base := base) Y.d_is_sequence T g_is_listed g_is_run
  have g_checked_state := ok_checked_state (P := P) (w := w) (base := base) Y.d_checked_state T g_is_state
  have g_length_of := ok_length_of (P := P) (w := w) (base := base) Y.d_length_of T
  have g_waiting_number := ok_waiting_number (P := P) (w := w) (base := base) Y.d_waiting_number
  have g_law_draw := ok_law_draw (P := P) (w := w) (base := base) Y.d_law_draw T
  have g_law_reel := ok_law_reel (P := P) (w := w) (base := base) Y.d_law_reel T
  have g_law_names := ok_law_names (P := P) (w := w) (base := base) Y.d_law_names T g_law_draw
  have g_law_state := ok_law_state (P := P) (w := w) (base := base) Y.d_law_state T g_law_draw
  have g_law_step := ok_law_step (P := P) (w := w) (base := base) Y.d_law_step
  have g_law_dressed := ok_law_dressed (P := P) (w := w) (base := base) Y.d_law_dressed T g_law_draw 3
  have g_kind_of := ok_kind_of (P := P) (w := w) (base := base) Y.d_kind_of
  have g_law_end := ok_law_end (P := P) (w := w) (base := base) Y.d_law_end g_law_step
  have g_is_kinds := ok_is_kinds (P := P) (w := w) (base := base) Y.d_is_kinds T g_is_listed g_is_kind
  have g_check_kinds := ok_check_kinds (P := P) (w := w) (base := base) Y.d_check_kinds g_is_kinds
  have g_meeting_of := ok_meeting_of (P := P) (w := w) (base := base) Y.d_meeting_of g_waiting_number g_kind_of
  have g_meeting_length := ok_meeting_length (P := P) (w := w) (base := base) Y.d_meeting_length g_check_kinds g_checked_state g_meeting_of g_length_of
  have g_shortest_meeting := ok_shortest_meeting (P := P) (w := w) (base := base) Y.d_shortest_meeting T g_check_kinds g_checked_state g_meeting_of g_length_of
  have g_law_due := ok_law_due (P := P) (w := w) (base := base) Y.d_law_due T g_law_step
  exact fn_law F T g_law_reel g_law_draw g_law_names g_law_state g_law_end g_law_due g_law_dressed g_meeting_length g_shortest_meeting g_is_sequence
theorem all_mk {P : Program} {w : World} {K : PySem.W.Frag} {h : Heap} {mg : Str → Option Value} {fa f : Addr} {od an : Option Addr} {sl : Array (Option Value)} {oc kV dc pm cd ct : Value} (X : K.In h) (G : h.Ns mainGlobals mg) (hfa : mg "law" = some (.ref fa)) (a : PySem.W.nsIn K mainGlobals "law" = some (some (.ref f)))
    (l : K.lookup f = some ⟨oc, od, .func (PySem.W.fnOf "law" "law" (defArgs s_law) (defBody s_law) (defScope s_law) .none kV dc pm an cd ct), sl⟩) (c : PySem.W.codeIn K cd "law" = true) (k : PySem.W.keepIn K (.ref f) = true) (Y : Top K mg) :
    ∃ fd : FuncData, (∀ (s : Shared) (v : Value), BindsTo s fd ⟨[v], []⟩ [("script", v)]) ∧ ∀ base : Heap, K.In base → base.Ns mainGlobals mg → FnC P w K mg base fa fd ["script"] (sp_law K) := by
  have e := hfa.symm.trans (PySem.W.mg_of X G a)
  cases e
  exact ⟨_, fun s v => .of_eq rfl, fun base _ _ => Y.law (fun_mk (st := s_law) l c k) base⟩
end UP
open PySem PySem.W PyProof.Rows
set_option maxHeartbeats 0 in
theorem PySem.Challenge.cw_unlikepairs_k28_shortest_meetings_by_sea_holds : PySem.Challenge.rw_unlikepairs_k28_shortest_meetings_by_sea.Holds := by
  w_on; o_law; k_head; (case hw => w_witness2)
  k_fill
  refine UP.walkC (l := PySem.Challenge.rw_unlikepairs_k28_shortest_meetings_by_sea) (n := 63) (x := "script") (sp := fun w => UP.sp_law _) rfl (by decide) rfl (fun w h Y => PySem.W.kIn_of Y) ?F (fun _ _ a ns hl hS => ⟨a, ns, rfl, hS, hl, fun _ => rfl⟩)
  case F =>
    intro w mg fa h KX G hmg
    refine' UP.all_mk KX G hmg ?a ?l ?c ?k ?Y
    (case a => k_is); (case l => k_is); (case c => k_is); (case k => k_is)
    case Y =>
      constructor
      · constructor
        · refine' PySem.W.mg_none_of KX G ?z; (case z => k_is)
        · refine' PySem.W.mg_none_of KX G ?z; (case z => k_is)
        · refine' PySem.W.mg_none_of KX G ?z; (case z => k_is)
        · refine' PySem.W.mg_none_of KX G ?z; (case z => k_is)
        · refine' PySem.W.mg_none_of KX G ?z; (case z => k_is)
        · refine' PySem.W.mg_none_of KX G ?z; (case z => k_is)
        · refine' PySem.W.mg_none_of KX G ?z; (case z => k_is)
        · refine' PySem.W.mg_none_of KX G ?z; (case z => k_is)
        · refine' PySem.W.mg_none_of KX G ?z; (case z => k_is)
        · refine' PySem.W.mg_none_of KX G ?z; (case z => k_is)
        · refine' PySem.W.mg_none_of KX G ?z; (case z => k_is)
        · refine' PySem.W.mg_none_of KX G ?z; (case z => k_is)
        · refine' PySem.W.mg_none_of KX G ?z; (case z => k_is)
        · refine' PySem.W.mg_none_of KX G ?z; (case z => k_is)
        · refine' PySem.W.mg_none_of KX G ?z; (case z => k_is)
        · refine' PySem.W.mg_none_of KX G ?z; (case z => k_is)
        · refine' PySem.W.mg_none_of KX G ?z; (case z => k_is)
        · refine' PySem.W.mg_none_of KX G ?z; (case z => k_is)
        · refine' PySem.W.mg_none_of KX G ?z; (case z => k_is)
        · refine' PySem.W.mg_none_of KX G ?z; (case z => k_is)
        · refine' PySem.W.mg_none_of KX G ?z; (case z => k_is)
        · refine' UP.cst_mk KX G ?z; (case z => k_is)
        · refine' UP.cst_mk KX G ?z; (case z => k_is)
        · refine' UP.cst_mk KX G ?z; (case z => k_is)
        · refine' UP.cst_mk KX G ?z; (case z => k_is)
      · refine' UP.df_mk KX G ?a ?l ?c ?k; (case a => k_is); (case l => k_is); (case c => k_is); (case k => k_is)
      · refine' UP.df_mk KX G ?a ?l ?c ?k; (case a => k_is); (case l => k_is); (case c => k_is); (case k => k_is)
      · refine' UP.df_mk KX G ?a ?l ?c ?k; (case a => k_is); (case l => k_is); (case c => k_is); (case k => k_is)
      · refine' UP.df_mk KX G ?a ?l ?c ?k; (case a => k_is); (case l => k_is); (case c => k_is); (case k => k_is)
      · refine' UP.df_mk KX G ?a ?l ?c ?k; (case a => k_is); (case l => k_is); (case c => k_is); (case k => k_is)
      · refine' UP.df_mk KX G ?a ?l ?c ?k; (case a => k_is); (case l => k_is); (case c => k_is); (case k => k_is)
      · refine' UP.df_mk KX G ?a ?l ?c ?k; (case a => k_is); (case l => k_is); (case c => k_is); (case k => k_is)
      · refine' UP.df_mk KX G ?a ?l ?c ?k; (case a => k_is); (case l => k_is); (case c => k_is); (case k => k_is)
      · refine' UP.df_mk KX G ?a ?l ?c ?k; (case a => k_is); (case l => k_is); (case c => k_is); (case k => k_is)
      · refine' UP.df_mk KX G ?a ?l ?c ?k; (case a => k_is); (case l => k_is); (case c => k_is); (case k => k_is)
      · refine' UP.df_mk KX G ?a ?l ?c ?k; (case a => k_is); (case l => k_is); (case c => k_is); (case k => k_is)
      · refine' UP.df_mk KX G ?a ?l ?c ?k; (case a => k_is); (case l => k_is); (case c => k_is); (case k => k_is)
      · refine' UP.df_mk KX G ?a ?l ?c ?k; (case a => k_is); (case l => k_is); (case c => k_is); (case k => k_is)
      · refine' UP.df_mk KX G ?a ?l ?c ?k; (case a => k_is); (case l => k_is); (case c => k_is); (case k => k_is)
      · refine' UP.df_mk KX G ?a ?l ?c ?k; (case a => k_is); (case l => k_is); (case c => k_is); (case k => k_is)
      · refine' UP.df_mk KX G ?a ?l ?c ?k; (case a => k_is); (case l => k_is); (case c => k_is); (case k => k_is)
      · refine' UP.df_mk KX G ?a ?l ?c ?k; (case a => k_is); (case l => k_is); (case c => k_is); (case k => k_is)
      · refine' UP.df_mk KX G ?a ?l ?c ?k; (case a => k_is); (case l => k_is); (case c => k_is); (case k => k_is)
      · refine' UP.df_mk KX G ?a ?l ?c ?k; (case a => k_is); (case l => k_is); (case c => k_is); (case k => k_is)
      · refine' UP.df_mk KX G ?a ?l ?c ?k; (case a => k_is); (case l => k_is); (case c => k_is); (case k => k_is)
      · refine' UP.df_mk KX G ?a ?l ?c ?k; (case a => k_is); (case l => k_is); (case c => k_is); (case k => k_is)
      · refine' UP.df_mk KX G ?a ?l ?c ?k; (case a => k_is); (case l => k_is); (case c => k_is); (case k => k_is)
      · refine' UP.df_mk KX G ?a ?l ?c ?k; (case a => k_is); (case l => k_is); (case c => k_is); (case k => k_is)
      · refine' UP.df_mk KX G ?a ?l ?c ?k; (case a => k_is); (case l => k_is); (case c => k_is); (case k => k_is)
      · refine' UP.df_mk KX G ?a ?l ?c ?k; (case a => k_is); (case l => k_is); (case c => k_is); (case k => k_is)
