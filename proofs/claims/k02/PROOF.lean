import PyProof.Rows.All
import Wide.All
import OpenK.AllK
import Wide.FinOn
import PyProof.EqAt
import PyProof.EqKinds
import PyProof.TupleCall
import HandS.ForMost
import HandS.IsInst
import HandS.Property
import HandS.Zip
import HandS.Walk
import HandS.TupAny
import KE.GoesEnum
import PySem.Challenge.RW_butfewrows_k02_whole_rows
set_option Elab.async false
set_option linter.all false
set_option maxRecDepth 100000
set_option maxHeartbeats 4000000
namespace BF
open PySem PySem.Spec L2 RZ
open PyProof.Rows hiding St
theorem e_v0 {r : St} {v : V} {H : Hp} {Q : VK} (q : Q v H) : tVar 0 (some v :: r) H Q := ⟨v, rfl, q⟩
theorem e_v1 {a0 : Option V} {r : St} {v : V} {H : Hp} {Q : VK} (q : Q v H) : tVar 1 (a0 :: some v :: r) H Q := ⟨v, rfl, q⟩
theorem e_v2 {a0 a1 : Option V} {r : St} {v : V} {H : Hp} {Q : VK} (q : Q v H) : tVar 2 (a0 :: a1 :: some v :: r) H Q := ⟨v, rfl, q⟩
theorem e_v3 {a0 a1 a2 : Option V} {r : St} {v : V} {H : Hp} {Q : VK} (q : Q v H) : tVar 3 (a0 :: a1 :: a2 :: some v :: r) H Q := ⟨v, rfl, q⟩
theorem e_v4 {a0 a1 a2 a3 : Option V} {r : St} {v : V} {H : Hp} {Q : VK} (q : Q v H) : tVar 4 (a0 :: a1 :: a2 :: a3 :: some v :: r) H Q := ⟨v, rfl, q⟩
theorem e_v5 {a0 a1 a2 a3 a4 : Option V} {r : St} {v : V} {H : Hp} {Q : VK} (q : Q v H) : tVar 5 (a0 :: a1 :: a2 :: a3 :: a4 :: some v :: r) H Q := ⟨v, rfl, q⟩
theorem e_v6 {a0 a1 a2 a3 a4 a5 : Option V} {r : St} {v : V} {H : Hp} {Q : VK} (q : Q v H) : tVar 6 (a0 :: a1 :: a2 :: a3 :: a4 :: a5 :: some v :: r) H Q := ⟨v, rfl, q⟩
theorem e_v7 {a0 a1 a2 a3 a4 a5 a6 : Option V} {r : St} {v : V} {H : Hp} {Q : VK} (q : Q v H) : tVar 7 (a0 :: a1 :: a2 :: a3 :: a4 :: a5 :: a6 :: some v :: r) H Q := ⟨v, rfl, q⟩
theorem e_v8 {a0 a1 a2 a3 a4 a5 a6 a7 : Option V} {r : St} {v : V} {H : Hp} {Q : VK} (q : Q v H) : tVar 8 (a0 :: a1 :: a2 :: a3 :: a4 :: a5 :: a6 :: a7 :: some v :: r) H Q := ⟨v, rfl, q⟩
theorem e_v9 {a0 a1 a2 a3 a4 a5 a6 a7 a8 : Option V} {r : St} {v : V} {H : Hp} {Q : VK} (q : Q v H) : tVar 9 (a0 :: a1 :: a2 :: a3 :: a4 :: a5 :: a6 :: a7 :: a8 :: some v :: r) H Q := ⟨v, rfl, q⟩
theorem e_v10 {a0 a1 a2 a3 a4 a5 a6 a7 a8 a9 : Option V} {r : St} {v : V} {H : Hp} {Q : VK} (q : Q v H) : tVar 10 (a0 :: a1 :: a2 :: a3 :: a4 :: a5 :: a6 :: a7 :: a8 :: a9 :: some v :: r) H Q := ⟨v, rfl, q⟩
theorem e_v11 {a0 a1 a2 a3 a4 a5 a6 a7 a8 a9 a10 : Option V} {r : St} {v : V} {H : Hp} {Q : VK} (q : Q v H) : tVar 11 (a0 :: a1 :: a2 :: a3 :: a4 :: a5 :: a6 :: a7 :: a8 :: a9 :: a10 :: some v :: r) H Q := ⟨v, rfl, q⟩
theorem e_v12 {a0 a1 a2 a3 a4 a5 a6 a7 a8 a9 a10 a11 : Option V} {r : St} {v : V} {H : Hp} {Q : VK} (q : Q v H) : tVar 12 (a0 :: a1 :: a2 :: a3 :: a4 :: a5 :: a6 :: a7 :: a8 :: a9 :: a10 :: a11 :: some v :: r) H Q := ⟨v, rfl, q⟩
theorem e_v13 {a0 a1 a2 a3 a4 a5 a6 a7 a8 a9 a10 a11 a12 : Option V} {r : St} {v : V} {H : Hp} {Q : VK} (q : Q v H) : tVar 13 (a0 :: a1 :: a2 :: a3 :: a4 :: a5 :: a6 :: a7 :: a8 :: a9 :: a10 :: a11 :: a12 :: some v :: r) H Q := ⟨v, rfl, q⟩
theorem e_v14 {a0 a1 a2 a3 a4 a5 a6 a7 a8 a9 a10 a11 a12 a13 : Option V} {r : St} {v : V} {H : Hp} {Q : VK} (q : Q v H) : tVar 14 (a0 :: a1 :: a2 :: a3 :: a4 :: a5 :: a6 :: a7 :: a8 :: a9 :: a10 :: a11 :: a12 :: a13 :: some v :: r) H Q := ⟨v, rfl, q⟩
theorem e_v15 {a0 a1 a2 a3 a4 a5 a6 a7 a8 a9 a10 a11 a12 a13 a14 : Option V} {r : St} {v : V} {H : Hp} {Q : VK} (q : Q v H) : tVar 15 (a0 :: a1 :: a2 :: a3 :: a4 :: a5 :: a6 :: a7 :: a8 :: a9 :: a10 :: a11 :: a12 :: a13 :: a14 :: some v :: r) H Q := ⟨v, rfl, q⟩
theorem e_v16 {a0 a1 a2 a3 a4 a5 a6 a7 a8 a9 a10 a11 a12 a13 a14 a15 : Option V} {r : St} {v : V} {H : Hp} {Q : VK} (q : Q v H) : tVar 16 (a0 :: a1 :: a2 :: a3 :: a4 :: a5 :: a6 :: a7 :: a8 :: a9 :: a10 :: a11 :: a12 :: a13 :: a14 :: a15 :: some v :: r) H Q := ⟨v, rfl, q⟩
theorem e_v17 {a0 a1 a2 a3 a4 a5 a6 a7 a8 a9 a10 a11 a12 a13 a14 a15 a16 : Option V} {r : St} {v : V} {H : Hp} {Q : VK} (q : Q v H) : tVar 17 (a0 :: a1 :: a2 :: a3 :: a4 :: a5 :: a6 :: a7 :: a8 :: a9 :: a10 :: a11 :: a12 :: a13 :: a14 :: a15 :: a16 :: some v :: r) H Q := ⟨v, rfl, q⟩
theorem e_v18 {a0 a1 a2 a3 a4 a5 a6 a7 a8 a9 a10 a11 a12 a13 a14 a15 a16 a17 : Option V} {r : St} {v : V} {H : Hp} {Q : VK} (q : Q v H) : tVar 18 (a0 :: a1 :: a2 :: a3 :: a4 :: a5 :: a6 :: a7 :: a8 :: a9 :: a10 :: a11 :: a12 :: a13 :: a14 :: a15 :: a16 :: a17 :: some v :: r) H Q := ⟨v, rfl, q⟩
theorem e_v19 {a0 a1 a2 a3 a4 a5 a6 a7 a8 a9 a10 a11 a12 a13 a14 a15 a16 a17 a18 : Option V} {r : St} {v : V} {H : Hp} {Q : VK} (q : Q v H) : tVar 19 (a0 :: a1 :: a2 :: a3 :: a4 :: a5 :: a6 :: a7 :: a8 :: a9 :: a10 :: a11 :: a12 :: a13 :: a14 :: a15 :: a16 :: a17 :: a18 :: some v :: r) H Q := ⟨v, rfl, q⟩
theorem e_v20 {a0 a1 a2 a3 a4 a5 a6 a7 a8 a9 a10 a11 a12 a13 a14 a15 a16 a17 a18 a19 : Option V} {r : St} {v : V} {H : Hp} {Q : VK} (q : Q v H) : tVar 20 (a0 :: a1 :: a2 :: a3 :: a4 :: a5 :: a6 :: a7 :: a8 :: a9 :: a10 :: a11 :: a12 :: a13 :: a14 :: a15 :: a16 :: a17 :: a18 :: a19 :: some v :: r) H Q := ⟨v, rfl, q⟩
theorem e_v21 {a0 a1 a2 a3 a4 a5 a6 a7 a8 a9 a10 a11 a12 a13 a14 a15 a16 a17 a18 a19 a20 : Option V} {r : St} {v : V} {H : Hp} {Q : VK} (q : Q v H) : tVar 21 (a0 :: a1 :: a2 :: a3 :: a4 :: a5 :: a6 :: a7 :: a8 :: a9 :: a10 :: a11 :: a12 :: a13 :: a14 :: a15 :: a16 :: a17 :: a18 :: a19 :: a20 :: some v :: r) H Q := ⟨v, rfl, q⟩
theorem e_v22 {a0 a1 a2 a3 a4 a5 a6 a7 a8 a9 a10 a11 a12 a13 a14 a15 a16 a17 a18 a19 a20 a21 : Option V} {r : St} {v : V} {H : Hp} {Q : VK} (q : Q v H) : tVar 22 (a0 :: a1 :: a2 :: a3 :: a4 :: a5 :: a6 :: a7 :: a8 :: a9 :: a10 :: a11 :: a12 :: a13 :: a14 :: a15 :: a16 :: a17 :: a18 :: a19 :: a20 :: a21 :: some v :: r) H Q := ⟨v, rfl, q⟩
theorem e_v23 {a0 a1 a2 a3 a4 a5 a6 a7 a8 a9 a10 a11 a12 a13 a14 a15 a16 a17 a18 a19 a20 a21 a22 : Option V} {r : St} {v : V} {H : Hp} {Q : VK} (q : Q v H) : tVar 23 (a0 :: a1 :: a2 :: a3 :: a4 :: a5 :: a6 :: a7 :: a8 :: a9 :: a10 :: a11 :: a12 :: a13 :: a14 :: a15 :: a16 :: a17 :: a18 :: a19 :: a20 :: a21 :: a22 :: some v :: r) H Q := ⟨v, rfl, q⟩
theorem e_v24 {a0 a1 a2 a3 a4 a5 a6 a7 a8 a9 a10 a11 a12 a13 a14 a15 a16 a17 a18 a19 a20 a21 a22 a23 : Option V} {r : St} {v : V} {H : Hp} {Q : VK} (q : Q v H) : tVar 24 (a0 :: a1 :: a2 :: a3 :: a4 :: a5 :: a6 :: a7 :: a8 :: a9 :: a10 :: a11 :: a12 :: a13 :: a14 :: a15 :: a16 :: a17 :: a18 :: a19 :: a20 :: a21 :: a22 :: a23 :: some v :: r) H Q := ⟨v, rfl, q⟩
theorem e_v25 {a0 a1 a2 a3 a4 a5 a6 a7 a8 a9 a10 a11 a12 a13 a14 a15 a16 a17 a18 a19 a20 a21 a22 a23 a24 : Option V} {r : St} {v : V} {H : Hp} {Q : VK} (q : Q v H) : tVar 25 (a0 :: a1 :: a2 :: a3 :: a4 :: a5 :: a6 :: a7 :: a8 :: a9 :: a10 :: a11 :: a12 :: a13 :: a14 :: a15 :: a16 :: a17 :: a18 :: a19 :: a20 :: a21 :: a22 :: a23 :: a24 :: some v :: r) H Q := ⟨v, rfl, q⟩
theorem g_n0 {a0 : Option V} {r : St} {v : V} {H : Hp} {Q : St → Hp → Prop} (q : Q (some v :: r) H) : gName 0 v (a0 :: r) H Q := q
theorem g_n1 {a0 a1 : Option V} {r : St} {v : V} {H : Hp} {Q : St → Hp → Prop} (q : Q (a0 :: some v :: r) H) : gName 1 v (a0 :: a1 :: r) H Q := q
theorem g_n2 {a0 a1 a2 : Option V} {r : St} {v : V} {H : Hp} {Q : St → Hp → Prop} (q : Q (a0 :: a1 :: some v :: r) H) : gName 2 v (a0 :: a1 :: a2 :: r) H Q := q
theorem g_n3 {a0 a1 a2 a3 : Option V} {r : St} {v : V} {H : Hp} {Q : St → Hp → Prop} (q : Q (a0 :: a1 :: a2 :: some v :: r) H) : gName 3 v (a0 :: a1 :: a2 :: a3 :: r) H Q := q
theorem g_n4 {a0 a1 a2 a3 a4 : Option V} {r : St} {v : V} {H : Hp} {Q : St → Hp → Prop} (q : Q (a0 :: a1 :: a2 :: a3 :: some v :: r) H) : gName 4 v (a0 :: a1 :: a2 :: a3 :: a4 :: r) H Q := q
theorem g_n5 {a0 a1 a2 a3 a4 a5 : Option V} {r : St} {v : V} {H : Hp} {Q : St → Hp → Prop} (q : Q (a0 :: a1 :: a2 :: a3 :: a4 :: some v :: r) H) : gName 5 v (a0 :: a1 :: a2 :: a3 :: a4 :: a5 :: r) H Q := q
theorem g_n6 {a0 a1 a2 a3 a4 a5 a6 : Option V} {r : St} {v : V} {H : Hp} {Q : St → Hp → Prop} (q : Q (a0 :: a1 :: a2 :: a3 :: a4 :: a5 :: some v :: r) H) : gName 6 v (a0 :: a1 :: a2 :: a3 :: a4 :: a5 :: a6 :: r) H Q := q
theorem g_n7 {a0 a1 a2 a3 a4 a5 a6 a7 : Option V} {r : St} {v : V} {H : Hp} {Q : St → Hp → Prop} (q : Q (a0 :: a1 :: a2 :: a3 :: a4 :: a5 :: a6 :: some v :: r) H) : gName 7 v (a0 :: a1 :: a2 :: a3 :: a4 :: a5 :: a6 :: a7 :: r) H Q := q
theorem g_n8 {a0 a1 a2 a3 a4 a5 a6 a7 a8 : Option V} {r : St} {v : V} {H : Hp} {Q : St → Hp → Prop} (q : Q (a0 :: a1 :: a2 :: a3 :: a4 :: a5 :: a6 :: a7 :: some v :: r) H) : gName 8 v (a0 :: a1 :: a2 :: a3 :: a4 :: a5 :: a6 :: a7 :: a8 :: r) H Q := q
theorem g_n9 {a0 a1 a2 a3 a4 a5 a6 a7 a8 a9 : Option V} {r : St} {v : V} {H : Hp} {Q : St → Hp → Prop} (q : Q (a0 :: a1 :: a2 :: a3 :: a4 :: a5 :: a6 :: a7 :: a8 :: some v :: r) H) : gName 9 v (a0 :: a1 :: a2 :: a3 :: a4 :: a5 :: a6 :: a7 :: a8 :: a9 :: r) H Q := q
theorem g_n10 {a0 a1 a2 a3 a4 a5 a6 a7 a8 a9 a10 : Option V} {r : St} {v : V} {H : Hp} {Q : St → Hp → Prop} (q : Q (a0 :: a1 :: a2 :: a3 :: a4 :: a5 :: a6 :: a7 :: a8 :: a9 :: some v :: r) H) : gName 10 v (a0 :: a1 :: a2 :: a3 :: a4 :: a5 :: a6 :: a7 :: a8 :: a9 :: a10 :: r) H Q := q
theorem g_n11 {a0 a1 a2 a3 a4 a5 a6 a7 a8 a9 a10 a11 : Option V} {r : St} {v : V} {H : Hp} {Q : St → Hp → Prop} (q : Q (a0 :: a1 :: a2 :: a3 :: a4 :: a5 :: a6 :: a7 :: a8 :: a9 :: a10 :: some v :: r) H) : gName 11 v (a0 :: a1 :: a2 :: a3 :: a4 :: a5 :: a6 :: a7 :: a8 :: a9 :: a10 :: a11 :: r) H Q := q
theorem g_n12 {a0 a1 a2 a3 a4 a5 a6 a7 a8 a9 a10 a11 a12 : Option V} {r : St} {v : V} {H : Hp} {Q : St → Hp → Prop} (q : Q (a0 :: a1 :: a2 :: a3 :: a4 :: a5 :: a6 :: a7 :: a8 :: a9 :: a10 :: a11 :: some v :: r) H) : gName 12 v (a0 :: a1 :: a2 :: a3 :: a4 :: a5 :: a6 :: a7 :: a8 :: a9 :: a10 :: a11 :: a12 :: r) H Q := q
theorem g_n13 {a0 a1 a2 a3 a4 a5 a6 a7 a8 a9 a10 a11 a12 a13 : Option V} {r : St} {v : V} {H : Hp} {Q : St → Hp → Prop} (q : Q (a0 :: a1 :: a2 :: a3 :: a4 :: a5 :: a6 :: a7 :: a8 :: a9 :: a10 :: a11 :: a12 :: some v :: r) H) : gName 13 v (a0 :: a1 :: a2 :: a3 :: a4 :: a5 :: a6 :: a7 :: a8 :: a9 :: a10 :: a11 :: a12 :: a13 :: r) H Q := q
theorem g_n14 {a0 a1 a2 a3 a4 a5 a6 a7 a8 a9 a10 a11 a12 a13 a14 : Option V} {r : St} {v : V} {H : Hp} {Q : St → Hp → Prop} (q : Q (a0 :: a1 :: a2 :: a3 :: a4 :: a5 :: a6 :: a7 :: a8 :: a9 :: a10 :: a11 :: a12 :: a13 :: some v :: r) H) : gName 14 v (a0 :: a1 :: a2 :: a3 :: a4 :: a5 :: a6 :: a7 :: a8 :: a9 :: a10 :: a11 :: a12 :: a13 :: a14 :: r) H Q := q
theorem g_n15 {a0 a1 a2 a3 a4 a5 a6 a7 a8 a9 a10 a11 a12 a13 a14 a15 : Option V} {r : St} {v : V} {H : Hp} {Q : St → Hp → Prop} (q : Q (a0 :: a1 :: a2 :: a3 :: a4 :: a5 :: a6 :: a7 :: a8 :: a9 :: a10 :: a11 :: a12 :: a13 :: a14 :: some v :: r) H) : gName 15 v (a0 :: a1 :: a2 :: a3 :: a4 :: a5 :: a6 :: a7 :: a8 :: a9 :: a10 :: a11 :: a12 :: a13 :: a14 :: a15 :: r) H Q := q
theorem g_n16 {a0 a1 a2 a3 a4 a5 a6 a7 a8 a9 a10 a11 a12 a13 a14 a15 a16 : Option V} {r : St} {v : V} {H : Hp} {Q : St → Hp → Prop} (q : Q (a0 :: a1 :: a2 :: a3 :: a4 :: a5 :: a6 :: a7 :: a8 :: a9 :: a10 :: a11 :: a12 :: a13 :: a14 :: a15 :: some v :: r) H) : gName 16 v (a0 :: a1 :: a2 :: a3 :: a4 :: a5 :: a6 :: a7 :: a8 :: a9 :: a10 :: a11 :: a12 :: a13 :: a14 :: a15 :: a16 :: r) H Q := q
theorem g_n17 {a0 a1 a2 a3 a4 a5 a6 a7 a8 a9 a10 a11 a12 a13 a14 a15 a16 a17 : Option V} {r : St} {v : V} {H : Hp} {Q : St → Hp → Prop} (q : Q (a0 :: a1 :: a2 :: a3 :: a4 :: a5 :: a6 :: a7 :: a8 :: a9 :: a10 :: a11 :: a12 :: a13 :: a14 :: a15 :: a16 :: some v :: r) H) : gName 17 v (a0 :: a1 :: a2 :: a3 :: a4 :: a5 :: a6 :: a7 :: a8 :: a9 :: a10 :: a11 :: a12 :: a13 :: a14 :: a15 :: a16 :: a17 :: r) H Q := q
theorem g_n18 {a0 a1 a2 a3 a4 a5 a6 a7 a8 a9 a10 a11 a12 a13 a14 a15 a16 a17 a18 : Option V} {r : St} {v : V} {H : Hp} {Q : St → Hp → Prop} (q : Q (a0 :: a1 :: a2 :: a3 :: a4 :: a5 :: a6 :: a7 :: a8 :: a9 :: a10 :: a11 :: a12 :: a13 :: a14 :: a15 :: a16 :: a17 :: some v :: r) H) : gName 18 v (a0 :: a1 :: a2 :: a3 :: a4 :: a5 :: a6 :: a7 :: a8 :: a9 :: a10 :: a11 :: a12 :: a13 :: a14 :: a15 :: a16 :: a17 :: a18 :: r) H Q := q
theorem g_n19 {a0 a1 a2 a3 a4 a5 a6 a7 a8 a9 a10 a11 a12 a13 a14 a15 a16 a17 a18 a19 : Option V} {r : St} {v : V} {H : Hp} {Q : St → Hp → Prop} (q : Q (a0 :: a1 :: a2 :: a3 :: a4 :: a5 :: a6 :: a7 :: a8 :: a9 :: a10 :: a11 :: a12 :: a13 :: a14 :: a15 :: a16 :: a17 :: a18 :: some v :: r) H) : gName 19 v (a0 :: a1 :: a2 :: a3 :: a4 :: a5 :: a6 :: a7 :: a8 :: a9 :: a10 :: a11 :: a12 :: a13 :: a14 :: a15 :: a16 :: a17 :: a18 :: a19 :: r) H Q := q
theorem g_n20 {a0 a1 a2 a3 a4 a5 a6 a7 a8 a9 a10 a11 a12 a13 a14 a15 a16 a17 a18 a19 a20 : Option V} {r : St} {v : V} {H : Hp} {Q : St → Hp → Prop} (q : Q (a0 :: a1 :: a2 :: a3 :: a4 :: a5 :: a6 :: a7 :: a8 :: a9 :: a10 :: a11 :: a12 :: a13 :: a14 :: a15 :: a16 :: a17 :: a18 :: a19 :: some v :: r) H) : gName 20 v (a0 :: a1 :: a2 :: a3 :: a4 :: a5 :: a6 :: a7 :: a8 :: a9 :: a10 :: a11 :: a12 :: a13 :: a14 :: a15 :: a16 :: a17 :: a18 :: a19 :: a20 :: r) H Q := q
theorem g_n21 {a0 a1 a2 a3 a4 a5 a6 a7 a8 a9 a10 a11 a12 a13 a14 a15 a16 a17 a18 a19 a20 a21 : Option V} {r : St} {v : V} {H : Hp} {Q : St → Hp → Prop} (q : Q (a0 :: a1 :: a2 :: a3 :: a4 :: a5 :: a6 :: a7 :: a8 :: a9 :: a10 :: a11 :: a12 :: a13 :: a14 :: a15 :: a16 :: a17 :: a18 :: a19 :: a20 :: some v :: r) H) : gName 21 v (a0 :: a1 :: a2 :: a3 :: a4 :: a5 :: a6 :: a7 :: a8 :: a9 :: a10 :: a11 :: a12 :: a13 :: a14 :: a15 :: a16 :: a17 :: a18 :: a19 :: a20 :: a21 :: r) H Q := q
theorem g_n22 {a0 a1 a2 a3 a4 a5 a6 a7 a8 a9 a10 a11 a12 a13 a14 a15 a16 a17 a18 a19 a20 a21 a22 : Option V} {r : St} {v : V} {H : Hp} {Q : St → Hp → Prop} (q : Q (a0 :: a1 :: a2 :: a3 :: a4 :: a5 :: a6 :: a7 :: a8 :: a9 :: a10 :: a11 :: a12 :: a13 :: a14 :: a15 :: a16 :: a17 :: a18 :: a19 :: a20 :: a21 :: some v :: r) H) : gName 22 v (a0 :: a1 :: a2 :: a3 :: a4 :: a5 :: a6 :: a7 :: a8 :: a9 :: a10 :: a11 :: a12 :: a13 :: a14 :: a15 :: a16 :: a17 :: a18 :: a19 :: a20 :: a21 :: a22 :: r) H Q := q
theorem g_n23 {a0 a1 a2 a3 a4 a5 a6 a7 a8 a9 a10 a11 a12 a13 a14 a15 a16 a17 a18 a19 a20 a21 a22 a23 : Option V} {r : St} {v : V} {H : Hp} {Q : St → Hp → Prop} (q : Q (a0 :: a1 :: a2 :: a3 :: a4 :: a5 :: a6 :: a7 :: a8 :: a9 :: a10 :: a11 :: a12 :: a13 :: a14 :: a15 :: a16 :: a17 :: a18 :: a19 :: a20 :: a21 :: a22 :: some v :: r) H) : gName 23 v (a0 :: a1 :: a2 :: a3 :: a4 :: a5 :: a6 :: a7 :: a8 :: a9 :: a10 :: a11 :: a12 :: a13 :: a14 :: a15 :: a16 :: a17 :: a18 :: a19 :: a20 :: a21 :: a22 :: a23 :: r) H Q := q
theorem g_n24 {a0 a1 a2 a3 a4 a5 a6 a7 a8 a9 a10 a11 a12 a13 a14 a15 a16 a17 a18 a19 a20 a21 a22 a23 a24 : Option V} {r : St} {v : V} {H : Hp} {Q : St → Hp → Prop} (q : Q (a0 :: a1 :: a2 :: a3 :: a4 :: a5 :: a6 :: a7 :: a8 :: a9 :: a10 :: a11 :: a12 :: a13 :: a14 :: a15 :: a16 :: a17 :: a18 :: a19 :: a20 :: a21 :: a22 :: a23 :: some v :: r) H) : gName 24 v (a0 :: a1 :: a2 :: a3 :: a4 :: a5 :: a6 :: a7 :: a8 :: a9 :: a10 :: a11 :: a12 :: a13 :: a14 :: a15 :: a16 :: a17 :: a18 :: a19 :: a20 :: a21 :: a22 :: a23 :: a24 :: r) H Q := q
theorem g_n25 {a0 a1 a2 a3 a4 a5 a6 a7 a8 a9 a10 a11 a12 a13 a14 a15 a16 a17 a18 a19 a20 a21 a22 a23 a24 a25 : Option V} {r : St} {v : V} {H : Hp} {Q : St → Hp → Prop} (q : Q (a0 :: a1 :: a2 :: a3 :: a4 :: a5 :: a6 :: a7 :: a8 :: a9 :: a10 :: a11 :: a12 :: a13 :: a14 :: a15 :: a16 :: a17 :: a18 :: a19 :: a20 :: a21 :: a22 :: a23 :: a24 :: some v :: r) H) : gName 25 v (a0 :: a1 :: a2 :: a3 :: a4 :: a5 :: a6 :: a7 :: a8 :: a9 :: a10 :: a11 :: a12 :: a13 :: a14 :: a15 :: a16 :: a17 :: a18 :: a19 :: a20 :: a21 :: a22 :: a23 :: a24 :: a25 :: r) H Q := q
/-! ### unions of rules, so that a term asks no types -/
def rOr (r r' : R2) : R2 := fun x y H Q => r x y H Q ∨ r' x y H Q
theorem op_or {X : Cx} {f : Value → Value → Sem Value} {r r' : R2} (h : OpR X f r) (h' : OpR X f r') : OpR X f (rOr r r') :=
  fun pins s σ H x y v u Q I rx ry q => q.elim (fun q => h pins s σ H x y v u Q I rx ry q) (fun q => h' pins s σ H x y v u Q I rx ry q)
def cOr (r r' : List V → Hp → VK → Prop) : List V → Hp → VK → Prop := fun xs H Q => r xs H Q ∨ r' xs H Q
theorem call_or {X : Cx} {f : Value} {r r' : List V → Hp → VK → Prop} (h : CallR X f r) (h' : CallR X f r') : CallR X f (cOr r r') :=
  fun pins s σ H xs us Q I rs q => q.elim (fun q => h pins s σ H xs us Q I rs q) (fun q => h' pins s σ H xs us Q I rs q)
def iOr (w w' : TI) : TI := fun σ H R => w σ H R ∨ w' σ H R
theorem pi_or {X : Cx} {tg iter : Expr} {w w' : TI} (h : PI X tg iter w) (h' : PI X tg iter w') : PI X tg iter (iOr w w') :=
  ⟨fun pins s σ H R I q => q.elim (fun q => h.run pins s σ H R I q) (fun q => h'.run pins s σ H R I q)⟩
def slOr (r r' : V → Option Int → Option Int → Hp → VK → Prop) : V → Option Int → Option Int → Hp → VK → Prop := fun x l u H Q => r x l u H Q ∨ r' x l u H Q
theorem sl_or {X : Cx} {r r' : V → Option Int → Option Int → Hp → VK → Prop} (h : SlR X r) (h' : SlR X r') : SlR X (slOr r r') := by
  intro pins s σ H x v vl vu lo hi sl Q I rx hs pl pu q
  rcases q with q | q
  · exact h pins s σ H x v vl vu lo hi sl Q I rx hs pl pu q
  · exact h' pins s σ H x v vl vu lo hi sl Q I rx hs pl pu q
/-- t * k, t a tuple is elsewhere; + of ints, lists, tuples, texts -/
def rAddS : R2 := fun x y H Q => ∃ i j, x = .str i ∧ y = .str j ∧ i.length + j.length ≤ sizeLine ∧ Q (.str (i ++ j)) H
def rAddU (K : PySem.W.Frag) : R2 := rOr (rI0 fun i j => .int (i + j)) (rOr rCat (rOr (rCatA K) rAddS))
theorem op_addU {X : Cx} : OpR X (binaryOp .Add) (rAddU X.K) := op_or op_add (op_or op_cat (op_or op_catA op_add_str))
def rMulU : R2 := rOr (rI CMul fun i j => .int (i * j)) rRep
theorem op_mulU {X : Cx} : OpR X (binaryOp .Mult) rMulU := op_or op_mul op_rep
def rEqU (K : PySem.W.Frag) : R2 := rOr rEq (rEqD K)
def rNeU (K : PySem.W.Frag) : R2 := rOr rNe (rNeD K)
theorem op_eqU {X : Cx} (hu : X.A.units + 64 < cLine) : OpR X (compareOp .Eq) (rEqU X.K) := op_or op_eq (op_eqD hu)
theorem op_neU {X : Cx} (hu : X.A.units + 64 < cLine) : OpR X (compareOp .NotEq) (rNeU X.K) := op_or op_ne (op_neD hu)
def iSeq (K : PySem.W.Frag) (t : TE) : TI := iOr (iList K t) (iTup K t)
theorem pi_seq {X : Cx} {tg l : Expr} {tl : TE} (hl : PE X l tl) : PI X tg l (iSeq X.K tl) := pi_or (pi_list hl) (pi_tup hl)
def rSlU (K : PySem.W.Frag) : V → Option Int → Option Int → Hp → VK → Prop := slOr (rSlL K) (rSlA K)
theorem sl_U {X : Cx} : SlR X (rSlU X.K) := sl_or sl_list sl_tupA

def rLenU (K : PySem.W.Frag) : List V → Hp → VK → Prop := fun xs H Q => ∃ x n, xs = [x] ∧ LenV K x H n ∧ Q (.int n) H
theorem call_lenU {X : Cx} : CallR X (.builtin "len") (rLenU X.K) := call_len
def rIntU : List V → Hp → VK → Prop := fun xs H Q => (∃ i, xs = [.int i] ∧ Q (.int i) H) ∨ ∃ k, xs = [.bl k] ∧ Q (.int (if k then 1 else 0)) H
theorem call_intU {X : Cx} : CallR X (.type "int") rIntU := call_int1
def rListU (K : PySem.W.Frag) : List V → Hp → VK → Prop := fun xs H Q => ∃ p ys, xs = [.ref p] ∧ (SqL K H p ys ∨ SqT K H p ys) ∧ ∀ l, H l = none → Q (.ref l) (upd H l (.lst ys))
theorem call_listU {X : Cx} : CallR X (.type "list") (rListU X.K) := call_list_of
def rTupU (K : PySem.W.Frag) : List V → Hp → VK → Prop := fun xs H Q => ∃ p ys, xs = [.ref p] ∧ ((SqL K H p ys ∧ ∀ l, H l = none → Q (.ref l) (upd H l (.tup ys))) ∨ (SqT K H p ys ∧ Q (.ref p) H))
theorem call_tupU {X : Cx} : CallR X (.type "tuple") (rTupU X.K) := call_tuple_of
def rMaxU : List V → Hp → VK → Prop := fun xs H Q => ∃ i j, xs = [.int i, .int j] ∧ Q (.int (if j > i then j else i)) H
theorem call_maxU {X : Cx} (hc : X.calm = true) : CallR X (.builtin "max") rMaxU := call_max2 hc
def rMinU : List V → Hp → VK → Prop := fun xs H Q => ∃ i j, xs = [.int i, .int j] ∧ Q (.int (if j < i then j else i)) H
theorem call_minU {X : Cx} (hc : X.calm = true) : CallR X (.builtin "min") rMinU := call_min2 hc

/-- a new tuple, a new list of the items -/
def mkT (Q : VK) : List V → Hp → Prop := fun xs H1 => xs.length ≤ sizeLine ∧ ∀ p, H1 p = none → Q (.ref p) (upd H1 p (.tup xs))
def mkL (Q : VK) : List V → Hp → Prop := fun xs H1 => xs.length ≤ sizeLine ∧ ∀ p, H1 p = none → Q (.ref p) (upd H1 p (.lst xs))
/-- a new object of a class: its __init__'s promise, then the object -/
def mkO (C : Addr) (sp : Sp) (E : XK) (Q : VK) : List V → Hp → Prop := fun vs H1 => ∀ x dx, H1 x = none → H1 dx = none → dx ≠ x → sp (.ref x :: vs) (upd (upd H1 dx (.own x)) x (.ins C dx [])) (fun v H2 => v = .non ∧ Q (.ref x) H2) E
/-! ### steps -/
section
variable {K : PySem.W.Frag} {σ : St} {H : Hp} {D : Ends} {Q : VK} {QB : Bool → Hp → Prop} {QA : List V → Hp → Prop} {t u : TS} {ta tb te tc : TE} {tt tu : TT} {tr : TA} {g : TG}
theorem s_nx {f : St → Hp → Prop} {r : VK} {b c : St → Hp → Prop} (q : f σ H) : Ends.nx ⟨f, r, b, c⟩ σ H := q
theorem s_rt {f : St → Hp → Prop} {r : VK} {b c : St → Hp → Prop} {v : V} (q : r v H) : Ends.rt ⟨f, r, b, c⟩ v H := q
theorem s_bk {f : St → Hp → Prop} {r : VK} {b c : St → Hp → Prop} (q : b σ H) : Ends.bk ⟨f, r, b, c⟩ σ H := q
theorem s_ct {f : St → Hp → Prop} {r : VK} {b c : St → Hp → Prop} (q : c σ H) : Ends.ct ⟨f, r, b, c⟩ σ H := q
theorem nxs {σ' : St} (e : σ = σ') (q : D.nx σ' H) : D.nx σ H := by
  rw [e]
  exact q
theorem e_cut (P : VK) (h : ∀ R : VK, (∀ v H', P v H' → R v H') → te σ H R) (q : ∀ v H', P v H' → Q v H') : te σ H Q := h Q q
theorem s_par {i j : Nat} (q : tr σ H fun vs H1 => ∃ v w, vs = [v, w] ∧ D.nx ((σ.set i (some v)).set j (some w)) H1) : tPar i j tr D σ H := q
theorem ty_l {T : String} {p : Addr} {xs : List V} (e : T = "list") (h : H p = some (.lst xs)) : tyV K T (.ref p) H := .inl ⟨e, _, .inl (.inl h)⟩
theorem s_seq (q : t { D with nx := u D } σ H) : tSeq t u D σ H := q
theorem s_next (q : D.nx σ H) : tNext D σ H := q
theorem s_asg (q : te σ H fun x H1 => g x σ H1 D.nx) : tAsg te g D σ H := q
theorem s_exp (q : te σ H fun _ H1 => D.nx σ H1) : tDrop te D σ H := q
theorem s_ret (q : te σ H D.rt) : tRet te D σ H := q
theorem s_if (q : tt σ H fun b H1 => if b = true then t D σ H1 else u D σ H1) : tIfS tt t u D σ H := q
theorem s_brk (q : D.bk σ H) : tBreak D σ H := q
theorem s_cnt (q : D.ct σ H) : tCont D σ H := q
theorem e_c {v : V} (q : Q v H) : tC v σ H Q := q
theorem e_op {r : R2} (q : ta σ H fun x H1 => tb σ H1 fun y H2 => r x y H2 Q) : tOp r ta tb σ H Q := q
theorem e_un {r : V → Hp → VK → Prop} (q : ta σ H fun x H1 => r x H1 Q) : tUn r ta σ H Q := q
theorem e_test (q : te σ H fun x H' => ∃ k, x = .bl k ∧ QB k H') : tTest te σ H QB := q
theorem e_tB (q : te σ H fun x H' => ∃ k, x = .bl k ∧ QB k H') : tB te σ H QB := q
theorem e_and (q : tt σ H fun c H1 => if c = true then tu σ H1 QB else QB false H1) : tAnd tt tu σ H QB := q
theorem e_or (q : tt σ H fun c H1 => if c = true then QB true H1 else tu σ H1 QB) : tOr tt tu σ H QB := q
theorem e_not (q : tt σ H fun c H1 => QB (!c) H1) : tNot tt σ H QB := q
theorem e_andV (q : ta σ H fun x H1 => ∃ c, x = .bl c ∧ if c = true then tb σ H1 Q else Q (.bl false) H1) : tAndV ta tb σ H Q := q
theorem e_orV (q : ta σ H fun x H1 => ∃ c, x = .bl c ∧ if c = true then Q (.bl true) H1 else tb σ H1 Q) : tOrV ta tb σ H Q := q
theorem e_notV (q : ta σ H fun x H1 => ∃ c, x = .bl c ∧ Q (.bl (!c)) H1) : tNotV ta σ H Q := q
theorem e_ife (q : tt σ H fun c H1 => if c = true then ta σ H1 Q else tb σ H1 Q) : tIf tt ta tb σ H Q := q
theorem e_chain {r r' : R2} (q : ta σ H fun x H1 => tb σ H1 fun y H2 => r x y H2 fun z H3 => ∃ k, z = .bl k ∧ (if k = true then tc σ H3 fun w' H4 => r' y w' H4 Q else Q (.bl false) H3)) : tChain r r' ta tb tc σ H Q := q
theorem e_tup (q : tr σ H (mkT Q)) : tTup tr σ H Q := q
theorem e_lst (q : tr σ H (mkL Q)) : tLst tr σ H Q := q
theorem a_nil (q : QA [] H) : tNil σ H QA := q
theorem a_cons {tr : TA} (q : te σ H fun x H1 => tr σ H1 fun xs H2 => QA (x :: xs) H2) : tCons te tr σ H QA := q
theorem e_cb {r : List V → Hp → VK → Prop} (q : tr σ H fun vs H1 => r vs H1 Q) : tCB r tr σ H Q := q
theorem e_call {sp : Sp} {E : XK} (q : tr σ H fun vs H1 => sp vs H1 Q E) : tCall sp [] E tr σ H Q := by
  show tr σ H fun vs H1 => sp (vs ++ []) H1 Q E
  have e : (fun vs H1 => sp (vs ++ []) H1 Q E) = fun vs H1 => sp vs H1 Q E := by
    funext vs H1
    rw [List.append_nil]
  rw [e]
  exact q
theorem e_make {C : Addr} {sp : Sp} {E : XK} (q : tr σ H (mkO C sp E Q)) : tMake C sp [] E tr σ H Q := by
  have e : (fun vs H1 => ∀ x dx, H1 x = none → H1 dx = none → dx ≠ x → sp (.ref x :: (vs ++ [])) (upd (upd H1 dx (.own x)) x (.ins C dx [])) (fun v H2 => v = .non ∧ Q (.ref x) H2) E) = mkO C sp E Q := by
    funext vs H1
    rw [List.append_nil]
    rfl
  show tr σ H (fun vs H1 => ∀ x dx, H1 x = none → H1 dx = none → dx ≠ x → sp (.ref x :: (vs ++ [])) (upd (upd H1 dx (.own x)) x (.ins C dx [])) (fun v H2 => v = .non ∧ Q (.ref x) H2) E)
  rw [e]
  exact q
theorem e_prop {C : Addr} {sp : Sp} {E : XK} (q : te σ H fun x H1 => ∃ a dx fs, x = .ref a ∧ H1 a = some (.ins C dx fs) ∧ sp [.ref a] H1 Q E) : tProp C sp [] E te σ H Q := q
theorem e_meth {C : Addr} {m : Str} {sp : Sp} {E : XK} (q : te σ H fun x H1 => ∃ a dx fs, x = .ref a ∧ H1 a = some (.ins C dx fs) ∧ fs.lookup m = none ∧ tr σ H1 fun vs H2 => sp (x :: (vs ++ [])) H2 Q E) : tMeth C m sp [] E te tr σ H Q := q
theorem e_bm {T : String} {r : V → List V → Hp → VK → Prop} (q : te σ H fun x H1 => tyV K T x H1 ∧ tr σ H1 fun xs H2 => r x xs H2 Q) : tBM K T r te tr σ H Q := q
theorem e_bm0 {T : String} {r : V → List V → Hp → VK → Prop} (q : te σ H fun x H1 => tyV K T x H1 ∧ r x [] H1 Q) : tBM0 K T r te σ H Q := q
theorem e_sl {r : V → Option Int → Option Int → Hp → VK → Prop} {tl th : TO} (q : te σ H fun x H1 => tl σ H1 fun l H2 => th σ H2 fun u H3 => r x l u H3 Q) : tSl r te tl th σ H Q := q
theorem o_none {QO : Option Int → Hp → Prop} (q : QO none H) : tNoPart σ H QO := q
theorem o_some {QO : Option Int → Hp → Prop} (q : te σ H fun x H1 => ∃ i, x = .int i ∧ QO (some i) H1) : tPart te σ H QO := q
theorem f_for {wi : TI} {tb : TS} (q : wi σ H fun J H1 => ∃ W : Nat → Nat → St → Hp → Prop, (∃ m, W 0 m σ H1) ∧ ∀ i m σ H, W i m σ H →
  (J.stop i H ∧ D.nx σ H) ∨ (J.go i H ∧ ∃ N : St → Hp → Prop, (∀ σ' H', N σ' H' → ∃ m', m' < m ∧ W (i + 1) m' σ' H') ∧ ∀ x H', J.yld i H x H' → g x σ H' fun σ2 H2 => tb { D with nx := N, ct := N, bk := D.nx } σ2 H2)) : tFor wi g tb D σ H := q
theorem ex_bl {b : Bool} {P : Bool → Prop} (q : P b) : ∃ k, V.bl b = .bl k ∧ P k := ⟨b, rfl, q⟩
theorem ex_int {i : Int} {P : Int → Prop} (q : P i) : ∃ k, V.int i = .int k ∧ P k := ⟨i, rfl, q⟩
theorem i_t {A B : Prop} (h : A) : if true = true then A else B := iteT h
theorem i_f {A B : Prop} (h : B) : if false = true then A else B := iteF h
theorem i_nt {A B : Prop} (h : B) : if (!true) = true then A else B := iteF h
theorem i_nf {A B : Prop} (h : A) : if (!false) = true then A else B := iteT h
theorem i_d {c : Prop} [Decidable c] {A B : Prop} (h1 : c → A) (h2 : ¬ c → B) : if decide c = true then A else B := by
  by_cases h : c
  · rw [decide_eq_true h]
    exact iteT (h1 h)
  · rw [decide_eq_false h]
    exact iteF (h2 h)
theorem i_nd {c : Prop} [Decidable c] {A B : Prop} (h1 : ¬ c → A) (h2 : c → B) : if (!decide c) = true then A else B := by
  by_cases h : c
  · rw [decide_eq_true h]
    exact iteF (h2 h)
  · rw [decide_eq_false h]
    exact iteT (h1 h)
theorem i_dT {c : Prop} [Decidable c] {A B : Prop} (h : c) (q : A) : if decide c = true then A else B := by
  rw [decide_eq_true h]
  exact iteT q
theorem i_dF {c : Prop} [Decidable c] {A B : Prop} (h : ¬ c) (q : B) : if decide c = true then A else B := by
  rw [decide_eq_false h]
  exact iteF q
theorem i_b {b : Bool} {A B : Prop} (h1 : b = true → A) (h2 : b = false → B) : if b = true then A else B := by
  cases b with
  | true => exact iteT (h1 rfl)
  | false => exact iteF (h2 rfl)
/-! what a for and a comprehension walk -/
section
variable {ws : List Nat} {tb : TS} {tl : TE}
theorem e_lcT (q : tl σ H fun x H1 => ∃ a, x = .ref a ∧ (∃ xs, SqT K H1 a xs) ∧ ∀ D, H1 D = none → ∃ W : Nat → Nat → Hp → Prop, (∃ m, W 0 m (upd H1 D (.lst []))) ∧ ∀ i m H, W i m H →
  ((Itt K a).stop i H ∧ Q (.ref D) H) ∨ ((Itt K a).go i H ∧ ∃ Nx : Hp → Prop, (∀ H', Nx H' → ∃ m', m' < m ∧ W (i + 1) m' H') ∧ ∀ x H', (Itt K a).yld i H x H' → g x (wipe σ ws) H' fun σ2 H2 => wipe σ2 ws = wipe σ ws ∧ tt σ2 H2 fun b H3 =>
    if b = true then te σ2 H3 fun y H4 => ∃ acc, H4 D = some (.lst acc) ∧ acc.length < sizeLine ∧ Nx (upd H4 D (.lst (acc ++ [y]))) else Nx H3)) : tLc (iSeq K tl) g tt te ws σ H Q := .inr q
theorem f_forT (q : tl σ H fun x H1 => ∃ a, x = .ref a ∧ (∃ xs, SqT K H1 a xs) ∧ ∃ W : Nat → Nat → St → Hp → Prop, (∃ m, W 0 m σ H1) ∧ ∀ i m σ H, W i m σ H →
  ((Itt K a).stop i H ∧ D.nx σ H) ∨ ((Itt K a).go i H ∧ ∃ N : St → Hp → Prop, (∀ σ' H', N σ' H' → ∃ m', m' < m ∧ W (i + 1) m' σ' H') ∧ ∀ x H', (Itt K a).yld i H x H' → g x σ H' fun σ2 H2 => tb { D with nx := N, ct := N, bk := D.nx } σ2 H2)) : tFor (iSeq K tl) g tb D σ H := .inr q
theorem e_lcL (q : tl σ H fun x H1 => ∃ a, x = .ref a ∧ (∃ xs, SqL K H1 a xs) ∧ ∀ D, H1 D = none → ∃ W : Nat → Nat → Hp → Prop, (∃ m, W 0 m (upd H1 D (.lst []))) ∧ ∀ i m H, W i m H →
  ((Itl K a).stop i H ∧ Q (.ref D) H) ∨ ((Itl K a).go i H ∧ ∃ Nx : Hp → Prop, (∀ H', Nx H' → ∃ m', m' < m ∧ W (i + 1) m' H') ∧ ∀ x H', (Itl K a).yld i H x H' → g x (wipe σ ws) H' fun σ2 H2 => wipe σ2 ws = wipe σ ws ∧ tt σ2 H2 fun b H3 =>
    if b = true then te σ2 H3 fun y H4 => ∃ acc, H4 D = some (.lst acc) ∧ acc.length < sizeLine ∧ Nx (upd H4 D (.lst (acc ++ [y]))) else Nx H3)) : tLc (iSeq K tl) g tt te ws σ H Q := .inl q
theorem f_forL (q : tl σ H fun x H1 => ∃ a, x = .ref a ∧ (∃ xs, SqL K H1 a xs) ∧ ∃ W : Nat → Nat → St → Hp → Prop, (∃ m, W 0 m σ H1) ∧ ∀ i m σ H, W i m σ H →
  ((Itl K a).stop i H ∧ D.nx σ H) ∨ ((Itl K a).go i H ∧ ∃ N : St → Hp → Prop, (∀ σ' H', N σ' H' → ∃ m', m' < m ∧ W (i + 1) m' σ' H') ∧ ∀ x H', (Itl K a).yld i H x H' → g x σ H' fun σ2 H2 => tb { D with nx := N, ct := N, bk := D.nx } σ2 H2)) : tFor (iSeq K tl) g tb D σ H := .inl q
theorem e_lcR (q : tr σ H fun vs H1 => ∃ j : Int, vs = [.int j] ∧ -(2 ^ 62) ≤ j ∧ j < 2 ^ 62 ∧ ∀ D, H1 D = none → ∃ W : Nat → Nat → Hp → Prop, (∃ m, W 0 m (upd H1 D (.lst []))) ∧ ∀ i m H, W i m H →
  ((Itr 0 j.toNat).stop i H ∧ Q (.ref D) H) ∨ ((Itr 0 j.toNat).go i H ∧ ∃ Nx : Hp → Prop, (∀ H', Nx H' → ∃ m', m' < m ∧ W (i + 1) m' H') ∧ ∀ x H', (Itr 0 j.toNat).yld i H x H' → g x (wipe σ ws) H' fun σ2 H2 => wipe σ2 ws = wipe σ ws ∧ tt σ2 H2 fun b H3 =>
    if b = true then te σ2 H3 fun y H4 => ∃ acc, H4 D = some (.lst acc) ∧ acc.length < sizeLine ∧ Nx (upd H4 D (.lst (acc ++ [y]))) else Nx H3)) : tLc (iRng1 tr) g tt te ws σ H Q := q
theorem f_forR (q : tr σ H fun vs H1 => ∃ j : Int, vs = [.int j] ∧ -(2 ^ 62) ≤ j ∧ j < 2 ^ 62 ∧ ∃ W : Nat → Nat → St → Hp → Prop, (∃ m, W 0 m σ H1) ∧ ∀ i m σ H, W i m σ H →
  ((Itr 0 j.toNat).stop i H ∧ D.nx σ H) ∨ ((Itr 0 j.toNat).go i H ∧ ∃ N : St → Hp → Prop, (∀ σ' H', N σ' H' → ∃ m', m' < m ∧ W (i + 1) m' σ' H') ∧ ∀ x H', (Itr 0 j.toNat).yld i H x H' → g x σ H' fun σ2 H2 => tb { D with nx := N, ct := N, bk := D.nx } σ2 H2)) : tFor (iRng1 tr) g tb D σ H := q
end
theorem g_pair {p : Addr} {x y : V} {i j : Nat} {σ' : St} {QS : St → Hp → Prop} (h : SqT K H p [x, y]) (e : (σ.set i (some x)).set j (some y) = σ') (q : QS σ' H) : gTup K 2 (gCons (gName i) (gCons (gName j) gNil)) (.ref p) σ H QS := by
  refine ⟨p, [x, y], rfl, h, rfl, x, [y], rfl, y, [], rfl, rfl, ?_⟩
  rw [e]
  exact q
/-! values -/
theorem add_i {i j : Int} (q : Q (.int (i + j)) H) : rAddU K (.int i) (.int j) H Q := .inl ⟨i, j, rfl, rfl, q⟩
theorem r_i0 {g : Int → Int → V} {i j : Int} (q : Q (g i j) H) : rI0 g (.int i) (.int j) H Q := ⟨i, j, rfl, rfl, q⟩
theorem r_ic {C : Int → Int → Prop} {g : Int → Int → V} {i j : Int} (c : C i j) (q : Q (g i j) H) : rI C g (.int i) (.int j) H Q := ⟨i, j, rfl, rfl, c, q⟩
theorem mul_i {i j : Int} (c : CMul i j) (q : Q (.int (i * j)) H) : rMulU (.int i) (.int j) H Q := .inl ⟨i, j, rfl, rfl, c, q⟩
theorem mod_c {i j : Int} (h : j ≠ 0) (q : Q (.int (i.fmod j)) H) : rI (fun _ j => j ≠ 0) (fun i j => .int (i.fmod j)) (.int i) (.int j) H Q := ⟨i, j, rfl, rfl, h, q⟩
theorem fdv_c {i j : Int} (h : CDivN i j) (q : Q (.int (i.fdiv j)) H) : rI CDivN (fun i j => .int (i.fdiv j)) (.int i) (.int j) H Q := ⟨i, j, rfl, rfl, h, q⟩
theorem cmul_l {i j : Int} (h0 : 0 ≤ i) (h1 : i < 2147483648) : CMul i j := .inl ⟨by omega, by omega⟩
theorem cmul_r {i j : Int} (h0 : 0 ≤ j) (h1 : j < 2147483648) : CMul i j := .inr ⟨by omega, by omega⟩
theorem g_sub {to ti : TE} {t : TSet} {v : V} {QS : St → Hp → Prop} (q : to σ H fun o H1 => ti σ H1 fun i H2 => t o i v H2 fun H3 => QS σ H3) : gSub to ti t v σ H QS := q
theorem set_l {p : Addr} {xs : List V} {k : Int} {v : V} {QH : Hp → Prop} (hp : H p = some (.lst xs)) (h0 : 0 ≤ k) (h1 : k < (xs.length : Int)) (q : QH (upd H p (.lst (xs.set k.toNat v)))) : rSetL (.ref p) (.int k) v H QH :=
  ⟨p, xs, k, k.toNat, rfl, rfl, hp, by
    unfold ixN
    rw [if_pos h0, if_pos h1], q⟩
theorem eq_i {i j : Int} (q : Q (.bl (decide (i = j))) H) : rEqU K (.int i) (.int j) H Q := by
  refine .inl ⟨rfl, ?_⟩
  have e : decide (V.int i = V.int j) = decide (i = j) := by
    by_cases h : i = j
    · rw [decide_eq_true h, decide_eq_true (by rw [h])]
    · rw [decide_eq_false h, decide_eq_false fun z => h (V.int.inj z)]
  rw [e]
  exact q
theorem ne_i {i j : Int} (q : Q (.bl (!decide (i = j))) H) : rNeU K (.int i) (.int j) H Q := by
  refine .inl ⟨rfl, ?_⟩
  have e : decide (V.int i = V.int j) = decide (i = j) := by
    by_cases h : i = j
    · rw [decide_eq_true h, decide_eq_true (by rw [h])]
    · rw [decide_eq_false h, decide_eq_false fun z => h (V.int.inj z)]
  rw [e]
  exact q
theorem eq_b {a b : Bool} (q : Q (.bl (a == b)) H) : rEqU K (.bl a) (.bl b) H Q := by
  refine .inl ⟨rfl, ?_⟩
  have e : decide (V.bl a = V.bl b) = (a == b) := by cases a <;> cases b <;> rfl
  rw [e]
  exact q
theorem eq_tt (q : Q (.bl true) H) : rEqU K (.bl true) (.bl true) H Q := eq_b q
theorem eq_ff (q : Q (.bl true) H) : rEqU K (.bl false) (.bl false) H Q := eq_b q
theorem eq_tf (q : Q (.bl false) H) : rEqU K (.bl true) (.bl false) H Q := eq_b q
theorem eq_ft (q : Q (.bl false) H) : rEqU K (.bl false) (.bl true) H Q := eq_b q
theorem ne_tt (q : Q (.bl false) H) : rNeU K (.bl true) (.bl true) H Q := .inl ⟨rfl, q⟩
theorem ne_ff (q : Q (.bl false) H) : rNeU K (.bl false) (.bl false) H Q := .inl ⟨rfl, q⟩
theorem ne_tf (q : Q (.bl true) H) : rNeU K (.bl true) (.bl false) H Q := .inl ⟨rfl, q⟩
theorem ne_ft (q : Q (.bl true) H) : rNeU K (.bl false) (.bl true) H Q := .inl ⟨rfl, q⟩
theorem ne_b {a b : Bool} (q : Q (.bl (!(a == b))) H) : rNeU K (.bl a) (.bl b) H Q := by
  refine .inl ⟨rfl, ?_⟩
  have e : decide (V.bl a = V.bl b) = (a == b) := by cases a <;> cases b <;> rfl
  rw [e]
  exact q
theorem eq_s {x y : V} (h : scal x y = true) (q : Q (.bl (decide (x = y))) H) : rEqU K x y H Q := .inl ⟨h, q⟩
theorem ix_t {p : Addr} {xs : List V} {i : Int} {v : V} (h : SqT K H p xs) (ha : atI xs i = some v) (q : Q v H) : rIx K (.ref p) (.int i) H Q := .inr (.inl ⟨p, xs, i, v, rfl, rfl, h, ha, q⟩)
theorem ix_l {p : Addr} {xs : List V} {i : Int} {v : V} (h : SqL K H p xs) (ha : atI xs i = some v) (q : Q v H) : rIx K (.ref p) (.int i) H Q := .inl ⟨p, xs, i, v, rfl, rfl, h, ha, q⟩
theorem len_t {p : Addr} {xs : List V} (h : SqT K H p xs) (q : Q (.int xs.length) H) : rLenU K [.ref p] H Q := ⟨_, _, rfl, .inr ⟨_, h, rfl⟩, q⟩
theorem len_l {p : Addr} {xs : List V} (h : SqL K H p xs) (q : Q (.int xs.length) H) : rLenU K [.ref p] H Q := ⟨_, _, rfl, .inl ⟨_, h, rfl⟩, q⟩
theorem int_i {i : Int} (q : Q (.int i) H) : rIntU [.int i] H Q := .inl ⟨i, rfl, q⟩
theorem max_i {i j : Int} (q : Q (.int (if j > i then j else i)) H) : rMaxU [.int i, .int j] H Q := ⟨i, j, rfl, q⟩
theorem min_i {i j : Int} (q : Q (.int (if j < i then j else i)) H) : rMinU [.int i, .int j] H Q := ⟨i, j, rfl, q⟩
theorem tup_t {p : Addr} {xs : List V} (h : SqT K H p xs) (q : Q (.ref p) H) : rTupU K [.ref p] H Q := ⟨p, xs, rfl, .inr ⟨h, q⟩⟩
theorem tup_l {p : Addr} {xs : List V} (h : SqL K H p xs) (q : ∀ l H', H l = none → Same H H' → H' l = some (.tup xs) → (∀ b, b ≠ l → H' b = H b) → Q (.ref l) H') : rTupU K [.ref p] H Q :=
  ⟨p, xs, rfl, .inl ⟨h, fun l hl => q l _ hl (fun b o e => by
    rw [upd_ne (ne_of_none e hl)]
    exact e) upd_same fun _ hb => upd_ne hb⟩⟩
theorem list_s {p : Addr} {xs : List V} (h : SqL K H p xs ∨ SqT K H p xs) (q : ∀ l H', H l = none → Same H H' → H' l = some (.lst xs) → (∀ b, b ≠ l → H' b = H b) → Q (.ref l) H') : rListU K [.ref p] H Q :=
  ⟨p, xs, rfl, h, fun l hl => q l _ hl (fun b o e => by
    rw [upd_ne (ne_of_none e hl)]
    exact e) upd_same fun _ hb => upd_ne hb⟩
theorem app_l {p : Addr} {xs : List V} {y : V} (hp : H p = some (.lst xs)) (hl : xs.length < 1000) (q : Q .non (upd H p (.lst (xs ++ [y])))) : rAppend (.ref p) [y] H Q :=
  ⟨p, xs, y, rfl, rfl, hp, small1000 (Nat.le_of_lt hl), q⟩
theorem isi {x : V} {a b : String} {r : Bool} (h : TyX K H x (.type a)) (k : kitB a b = some r) (q : Q (.bl r) H) : rIsi K [x, .ty b] H Q :=
  ⟨x, .ty b, _, _, r, rfl, .ty b, h, kit_ty k, q⟩
theorem isi2 {x : V} {tp : Addr} {a b c : String} {r1 r2 : Bool} (hT : H tp = some (.tup [.ty b, .ty c])) (h : TyX K H x (.type a)) (k1 : kitB a b = some r1) (k2 : kitB a c = some r2) (q : Q (.bl (r1 || r2)) H) : rIsiT K [x, .ref tp] H Q :=
  ⟨x, tp, _, _, [.type b, .type c], r1 || r2, rfl, hT, .cons (.ty b) (.cons (.ty c) .nil), h,
    kitAny_cons (kit_ty k1) (fun e => by
      subst e
      exact kitAny_cons (kit_ty k2) (fun e => by
        subst e
        exact kitAny_nil) (fun e => by
        subst e
        rfl)) (fun e => by
      subst e
      rfl), q⟩
end

/-! ### heaps -/
theorem sz1000 {n : Nat} (h : n ≤ 1000) : n ≤ sizeLine := Nat.le_trans h (by decide)
/-- all but some addresses stands as it stood -/
def But (S : List Addr) (H H' : Hp) : Prop := ∀ b o, H b = some o → b ∉ S → H' b = some o
/-- all but lists stands as it stood -/
def NL (H H' : Hp) : Prop := ∀ b o, H b = some o → (∀ xs, o ≠ .lst xs) → H' b = some o
section
variable {K : PySem.W.Frag} {H H1 H2 H' : Hp} {a p : Addr} {xs : List V} {o : HO} {S : List Addr}
theorem same_upd (h : H p = none) : Same H (upd H p o) := fun b x e => by
  rw [upd_ne (ne_of_none e h)]
  exact e
theorem _root_.L2.Same.t (e : Same H H') (h : SqT K H a xs) : SqT K H' a xs := by
  rcases h with (h | ⟨o, h⟩) | h
  · exact .inl (.inl (e _ _ h))
  · exact .inl (.inr ⟨o, e _ _ h⟩)
  · exact .inr h
theorem _root_.L2.Same.nl (e : Same H H') : NL H H' := fun b o h _ => e b o h
theorem NL.refl (H : Hp) : NL H H := fun _ _ h _ => h
theorem NL.trans (e : NL H H1) (e2 : NL H1 H2) : NL H H2 := fun b o h n => e2 b o (e b o h n) n
theorem NL.t (e : NL H H') (h : SqT K H a xs) : SqT K H' a xs := by
  rcases h with (h | ⟨o, h⟩) | h
  · exact .inl (.inl (e _ _ h fun _ z => nomatch z))
  · exact .inl (.inr ⟨o, e _ _ h fun _ z => nomatch z⟩)
  · exact .inr h
theorem NL.ins {C dx : Addr} {fs : List (Str × V)} (e : NL H H') (h : H a = some (.ins C dx fs)) : H' a = some (.ins C dx fs) := e _ _ h fun _ z => nomatch z
theorem But.nl (e : But S H H') (h : ∀ b ∈ S, ∃ xs, H b = some (.lst xs)) : NL H H' := fun b o q n => e b o q fun m => by
  obtain ⟨xs, z⟩ := h b m
  rw [z] at q
  exact n xs (Option.some.inj q).symm
theorem but_upd : But [p] H (upd H p o) := fun b x e n => by
  rw [upd_ne (fun z => n (by rw [z]; exact List.mem_cons_self))]
  exact e
theorem _root_.L2.Same.but (e : Same H H') : But S H H' := fun b o h _ => e b o h
theorem But.trans (e : But S H H1) (e2 : But S H1 H2) : But S H H2 := fun b o h n => e2 b o (e b o h n) n
theorem But.mono {S' : List Addr} (e : But S H H') (h : ∀ b ∈ S, b ∈ S') : But S' H H' := fun b o q n => e b o q fun m => n (h b m)
/-- what S did not know may be left out -/
theorem But.same (e : But S H H') (h : ∀ b ∈ S, H b = none) : Same H H' := fun b o q => e b o q fun m => by
  rw [h b m] at q
  cases q
theorem sqT (h : H a = some (.tup xs)) : SqT K H a xs := .inl (.inl h)
theorem sqL (h : H a = some (.lst xs)) : SqL K H a xs := .inl (.inl h)
theorem upd_lst_nl {ys : List V} (h : H p = some (.lst xs)) : NL H (upd H p (.lst ys)) := fun b o q n => by
  by_cases e : b = p
  · subst e
    rw [h] at q
    exact absurd (Option.some.inj q).symm (n xs)
  · rw [upd_ne e]
    exact q
theorem new_same {o : HO} (h : H p = none) (e : H' = upd H p o) : Same H H' ∧ H' p = some o := by
  subst e
  exact ⟨same_upd h, upd_same⟩
theorem al_t {Q : VK} (hl : xs.length ≤ sizeLine) (q : ∀ p H', H p = none → Same H H' → H' p = some (.tup xs) → (∀ b, b ≠ p → H' b = H b) → Q (.ref p) H') : mkT Q xs H :=
  ⟨hl, fun p hp => q p _ hp (same_upd hp) upd_same fun _ hb => upd_ne hb⟩
theorem al_l {Q : VK} (hl : xs.length ≤ sizeLine) (q : ∀ p H', H p = none → Same H H' → H' p = some (.lst xs) → (∀ b, b ≠ p → H' b = H b) → Q (.ref p) H') : mkL Q xs H :=
  ⟨hl, fun p hp => q p _ hp (same_upd hp) upd_same fun _ hb => upd_ne hb⟩
end
section
variable {K : PySem.W.Frag} {H : Hp} {a b : Addr} {xs ys : List V} {Q : VK}
theorem cut_whole {lo hi : Option Int} (h : HT.sIx xs.length 0 lo = 0 ∧ HT.sIx xs.length xs.length hi = xs.length) : cutV xs lo hi = xs := by
  unfold cutV
  rw [h.1, h.2, List.drop_zero, Nat.sub_zero, List.take_length]
/-- a slice of a tuple -/
theorem sl_t {lo hi : Option Int} (h : SqT K H a xs) (q : ∀ p H', Same H H' → SqT K H' p (cutV xs lo hi) → Q (.ref p) H') : rSlU K (.ref a) lo hi H Q := by
  refine .inr ⟨a, xs, rfl, h, fun w => ?_, fun _ p hp => ?_⟩
  · refine q a H (Same.refl H) ?_
    rw [cut_whole w]
    exact h
  · exact q p _ (same_upd hp) (sqT upd_same)
theorem sl_l {lo hi : Option Int} (h : SqL K H a xs) (q : ∀ p H', H p = none → Same H H' → H' p = some (.lst (cutV xs lo hi)) → Q (.ref p) H') : rSlU K (.ref a) lo hi H Q :=
  .inl ⟨a, xs, rfl, h, fun p hp => q p _ hp (same_upd hp) upd_same⟩
/-- t + u -/
theorem add_t (h : SqT K H a xs) (h2 : SqT K H b ys) (hl : xs.length + ys.length ≤ 1000) (q : ∀ p H', Same H H' → SqT K H' p (xs ++ ys) → Q (.ref p) H') : rAddU K (.ref a) (.ref b) H Q := by
  refine .inr (.inr (.inl ⟨a, b, xs, ys, rfl, rfl, h, h2, sz1000 hl, fun e => ?_, fun _ e => ?_, fun _ _ p hp => ?_⟩))
  · subst e
    exact q b H (Same.refl H) h2
  · subst e
    refine q a H (Same.refl H) ?_
    rw [List.append_nil]
    exact h
  · exact q p _ (same_upd hp) (sqT upd_same)
theorem add_l (h : H a = some (.lst xs)) (h2 : H b = some (.lst ys)) (hl : xs.length + ys.length ≤ 1000) (q : ∀ p H', H p = none → Same H H' → H' p = some (.lst (xs ++ ys)) → Q (.ref p) H') : rAddU K (.ref a) (.ref b) H Q :=
  .inr (.inl ⟨a, b, xs, ys, rfl, rfl, h, h2, sz1000 hl, fun p hp => q p _ hp (same_upd hp) upd_same⟩)
end
/-- the end of an enumerate over a tuple -/
theorem pyNext_enum_endT {prog : Program} {w : World} {A : Around} {E : Value → Shared → Prop} {s : Shared} {e it l : Addr} {i : Nat} {i' : Int} {items : Array Value} {old : Value} {Q : Option Value → Shared → Prop} (hh : A.in1.handled = none)
    (he : IsEnum s.heap e it i' old) (hit : s.heap.IsTupleIter it l i) (hl : s.heap.IsTuple l items) (hx : items[i]? = none)
    (hQ : ∀ h', Heap.ExtBut it s.heap h' → Q none { s with heap := h' }) : wpAny (model prog w) A (pyNext (.ref e)) Q E s := by
  have hT : s.TypeIs (.ref e) "enumerate" := ⟨_, he, rfl⟩
  unfold pyNext
  refine wpAny_bind (wpAny_attempt (wpAny_callSpecial?_slot (name := Str.ofString "__next__") hT F.slot_enumerate_next (wpAny_call_entry F.slot_enumerate_next hT F.entry_enumerate_next ?_ (F.args_enumerate_next_1 _))))
  show wpAny _ _ (field (.ref e) 2 >>= fun _ => _) _ _ _
  refine wpAny_bind (wpAny_field he rfl (x := .ref it) rfl ?_)
  refine wpAny_bind (wpAny_nextOf_tuple_end hh hit hl hx fun h' x he' hx' => ?_)
  obtain ⟨o, ho, hc⟩ := hx'
  refine wpAny_bind (wpAny_isInstance (T := "StopIteration") (b := true) ⟨o, ho, hc⟩ isSubtype_stop ?_)
  exact wpAny_pure (hQ _ he')
set_option maxHeartbeats 8000000 in
theorem meets_enum1 {v : Value} {o : Obj} {Hd : Heap → Prop} (B : Begins v o Hd) :
    Meets (Builtin.«enumerate.__new__» ⟨[.type "enumerate", v], []⟩) (fun _ R s => Hd s.heap ∧
      R (.ok (.ret (.ref (s.heap.push o).objs.size))) { s with heap := (s.heap.push o).push { cls := .type "enumerate", data := .fields #[.none, .bool false, .ref s.heap.objs.size, rawInt 0, .none, .none] } }) :=
  .of_wp fun prog w A R s h => by
    obtain ⟨hp, g, d, tk, os⟩ := s
    obtain ⟨h1, h⟩ := h
    have hsub := sub_enumerate
    have q1 : ∀ {A' : Around} {E : Value → Shared → Prop} {Q : Value → Shared → Prop}, Q (.ref hp.objs.size) ⟨hp.push o, g, d, tk, os⟩ → wpAny (model prog w) A' (pyIter v) Q E ⟨hp, g, d, tk, os⟩ := by
      intro A' E Q q
      exact B.iter prog w A' E ⟨hp, g, d, tk, os⟩ Q h1 q
    wp_walk using q1
    refine wpAny_stack_any fun st => wpAny_pure ?_
    split
    · rename_i c _ _ _ _ _
      cases (c == Value.type "enumerate") <;> (wp_walk using q1) <;> exact ⟨_, rfl, h⟩
    · wp_walk using q1
      exact ⟨_, rfl, h⟩
theorem enum_made {prog : Program} {w : World} {A : Around} {E : Value → Shared → Prop} {s : Shared} {v : Value} {o : Obj} {Hd : Heap → Prop} {Q : Value → Shared → Prop} (B : Begins v o Hd) (h1 : Hd s.heap)
    (h : ∀ h', IsEnum h' (s.heap.objs.size + 1) s.heap.objs.size 0 .none → h'.get? s.heap.objs.size = some o → h'.objs.size = s.heap.objs.size + 2 →
      (∀ b o, s.heap.get? b = some o → h'.get? b = some o) → Q (.ref (s.heap.objs.size + 1)) { s with heap := h' }) :
    wpAny (model prog w) A (call (.type "enumerate") [v]) Q E s := by
  refine callType_new F.called_enumerate (by decide) (F.typeCall_enumerate_1 _) (F.newCall_enumerate_1 _) (fun obj => F.args_object_init_2 obj _) F.entry_enumerate_new (meets_enum1 B) ⟨h1, ?_⟩
  have hz : (s.heap.push o).objs.size = s.heap.objs.size + 1 := Heap.size_push ..
  have he : IsEnum ((s.heap.push o).push { cls := .type "enumerate", data := .fields #[.none, .bool false, .ref s.heap.objs.size, rawInt 0, .none, .none] }) (s.heap.push o).objs.size s.heap.objs.size 0 .none := Heap.get?_push_size _ rfl
  rw [hz] at he
  rw [hz]
  refine ⟨⟨_, he, rfl⟩, h _ he (Heap.get?_push_of_some _ (Heap.get?_push_size _ B.free)) ?_ ?_⟩
  · rw [Heap.size_push, hz]
  · intro b ob x
    exact Heap.get?_push_of_some _ (Heap.get?_push_of_some _ x)
/-! ### for i, x in enumerate(t), t a tuple -/
/-- the tuple at a, each item in a new pair with its number -/
def ItEt (K : PySem.W.Frag) (a : Addr) : It where
  go i H := ∃ (xs : List V) (x : V), SqT K H a xs ∧ xs[i]? = some x
  yld i H v H' := ∃ T x, v = .ref T ∧ H T = none ∧ H' = upd H T (.tup [.int (i : Nat), x]) ∧ ∀ xs, SqT K H a xs → xs[i]? = some x
  stop i H := ∃ xs : List V, SqT K H a xs ∧ xs.length ≤ i
theorem turn_enumT {P : Program} {w : World} {K : PySem.W.Frag} {elts : List Expr} {kk : Nat} {tpos : Pos} (a e it : Addr) (hae : a ≠ e) (hai : a ≠ it) :
    Turn P w K (.Tuple elts kk tpos) (ItEt K a) [e, it] e (fun i h => (∃ old, IsEnum h e it ((i : Nat) : Int) old) ∧ h.IsTupleIter it a i ∧ e ≠ it) where
  mem := List.mem_cons_self
  obj := by
    rintro i h ⟨⟨old, he⟩, ⟨o, ho, hc, hd⟩, _⟩ b hb
    rcases List.mem_cons.mp hb with rfl | hb
    · exact ⟨_, he, by intro v q; cases q⟩
    · rw [List.mem_singleton.mp hb]
      exact ⟨o, ho, by intro v q; rw [hd] at q; cases q⟩
  keep := by
    rintro i h h' ⟨⟨old, he⟩, hi, hne⟩ k
    exact ⟨⟨old, k e List.mem_cons_self _ he⟩, hi.at fun o q => k it (List.mem_cons_of_mem _ List.mem_cons_self) o q, hne⟩
  item := by
    intro X hP hw hK hc i pins s σ H E I hf st hg
    subst hP
    subst hw
    subst hK
    obtain ⟨⟨old, he⟩, hit, hne⟩ := st
    obtain ⟨xs, x, hq, hx⟩ := hg
    obtain ⟨its, rv, p, hz⟩ := I.tuple hq
    obtain ⟨u, hu, ru⟩ := rv.get hx
    have hel : e < s.heap.objs.size := Heap.lt_size he
    have hil : it < s.heap.objs.size := by
      obtain ⟨_, q, _⟩ := id hit
      exact Heap.lt_size q
    have hil2 : i < its.toArray.size := by
      rw [List.size_toArray]
      exact (List.getElem?_eq_some_iff.mp hu).1
    have hh : (X.A.in1).handled = none := I.ok.hd hc
    refine wpAny_pyNext_enum_itemD (Draws.tuple hh it a hai its.toArray) he ⟨hit, p⟩ hil2 hne (by
      intro m
      rcases List.mem_cons.mp m with z | z
      · exact hne z
      · exact hae (List.mem_singleton.mp z).symm) fun u' h' tk hPx ho hst hT hsz hk => ?_
    have hux : u' = u := by
      have e1 : its.toArray[i]? = some u := by rw [List.getElem?_toArray]; exact hu
      rw [e1] at hPx
      exact (Option.some.inj hPx).symm
    subst hux
    refine ⟨_, rfl, wpAny_letOwnedTupleGo_enum (s := { s with heap := h', toks := tk + 1 }) ho fun h'' he' sb => ?_⟩
    have hT2 : h''.get? s.heap.objs.size = some { cls := .type "tuple", data := .seq #[.int i tk, u'] } := (sb.2 _ (Nat.ne_of_gt hel)).trans hT
    have new : ObjOk X.prog X.w (upd H s.heap.objs.size (.tup [.int (i : Nat), x])) h'' s.heap.objs.size (.tup [.int (i : Nat), x]) :=
      ⟨(by decide : 2 ≤ sizeLine), [.int i tk, u'], .cons ⟨_, rfl⟩ (.cons ru .nil), ⟨_, hT2, rfl, _, rfl⟩⟩
    have I1 : Inv X pins σ (upd H s.heap.objs.size (.tup [.int (i : Nat), x])) { s with heap := h'', toks := tk + 1 } := by
      refine I.turnedNew (ch := [e, it]) (fun b ob hb q => ?_) hf (Nat.le_refl _) new
      refine (sb.2 b fun z => hb (by rw [z]; exact List.mem_cons_self)).trans ?_
      exact hk b ob (fun z => hb (by rw [z]; exact List.mem_cons_self)) (fun z => hb (by rw [z]; exact List.mem_cons_of_mem _ List.mem_cons_self)) q
    refine ⟨.ref s.heap.objs.size, _, I1, rfl, ⟨_, x, rfl, I.hok.fresh (Nat.le_refl _), rfl, fun ys hy => ?_⟩, ⟨⟨u', ?_⟩, ?_, hne⟩, fun b hb => ?_⟩
    · rw [I.tuple_inj hy hq]
      exact hx
    · have e1 : ((i + 1 : Nat) : Int) = (i : Int) + 1 := by omega
      rw [e1]
      exact he'
    · exact hst.1.at fun o q => (sb.2 it (Ne.symm hne)).trans q
    · have hb' : b < s.heap.objs.size := by
        rcases List.mem_cons.mp hb with z | z
        · rw [z]; exact hel
        · rw [List.mem_singleton.mp z]; exact hil
      rw [upd_ne (Nat.ne_of_lt hb')]
      exact (hf b hb).1
  done := by
    intro X hP hw hK hc i pins s σ H E I hf st hg
    subst hP
    subst hw
    subst hK
    obtain ⟨⟨old, he⟩, hit, hne⟩ := st
    obtain ⟨xs, hq, hx⟩ := hg
    obtain ⟨its, rv, p, hz⟩ := I.tuple hq
    have hl := rv.length
    obtain ⟨f0, f1, f2, f3, f4, f5⟩ := hf it (List.mem_cons_of_mem _ List.mem_cons_self)
    have hh : (X.A.in1).handled = none := I.ok.hd hc
    refine pyNext_enum_endT hh he hit p ?_ fun h' eb => ⟨rfl, ?_⟩
    · rw [List.getElem?_toArray, List.getElem?_eq_none (by omega)]
    · exact I.turned (t' := s.toks) (fun b o hb q => eb b o hb q) f0 f1 f3 f4 f5
  self := by
    rintro A i s Q E ⟨⟨_, he⟩, _⟩ h
    exact wpAny_pyIter_enum he h
def iEnumT (K : PySem.W.Frag) (ta : TA) : TI := fun σ H R => ta σ H fun vs H1 => ∃ a xs, vs = [.ref a] ∧ SqT K H1 a xs ∧ R (ItEt K a) H1
theorem pi_enumT {X : Cx} {e : Expr} {ta : TA} {p pos tpos : Pos} {elts : List Expr} {kk : Nat} (hg : Gl X "enumerate") (hm : X.mg "enumerate" = none) (ha : PA X [e] ta) (hs : starEach [e] X.env = [(false, eval e X.env)] := by rfl) :
    PI X (.Tuple elts kk tpos) (.Call (.Name "enumerate" p) [e] [] pos) (iEnumT X.K ta) := by
  refine ⟨fun pins s σ H R I h => ?_⟩
  refine Call_ (ld_blt I hg hm boot_enumerate (PyProof.Rows.callWith_type1 (thn (ha.run pos pins s σ H _ I h) fun us s1 hh => ?_) hs rfl))
  obtain ⟨vs, H1, I1, r1, a, xs, ex, hq, q⟩ := hh
  subst ex
  cases r1 with
  | cons r rr =>
    cases rr
    cases r
    obtain ⟨its, rv, p', hz⟩ := I1.tuple hq
    have hal : a < s1.heap.objs.size := by
      obtain ⟨_, q, _⟩ := id p'
      exact Heap.lt_size q
    refine enum_made (begins_tuple a its.toArray) p' fun h' he hit hsz hk => wpAny_pyIter_enum he ?_
    have I2 : Inv X pins σ H1 { s1 with heap := h' } := I1.kept (t' := s1.toks) hk
    refine ⟨s1.heap.objs.size + 1, [s1.heap.objs.size + 1, s1.heap.objs.size], _, _, H1, rfl, I2, turn_enumT a (s1.heap.objs.size + 1) s1.heap.objs.size (Nat.ne_of_lt (Nat.lt_succ_of_lt hal)) (Nat.ne_of_lt hal), ⟨⟨.none, he⟩, ⟨_, hit, rfl, rfl⟩, Nat.succ_ne_self _⟩, fun b hb => ?_, q⟩
    have hle : s1.heap.objs.size ≤ b := by
      rcases List.mem_cons.mp hb with z | z
      · rw [z]; exact Nat.le_succ _
      · rw [List.mem_singleton.mp z]; exact Nat.le_refl _
    exact I1.fpOk hle (I1.hok.fresh hle)
theorem walk_enumT {K : PySem.W.Frag} {a : Addr} {xs : List V} : Walk (ItEt K a) xs.length (fun H => SqT K H a xs) (YPair (fun i => some (.int (i : Nat))) (fun i => xs[i]?)) := by
  refine ⟨fun i H hi h => ⟨xs, xs[i], h, List.getElem?_eq_getElem hi⟩, fun H h => ⟨xs, h, Nat.le_refl _⟩, fun i H x H' hi h y => ?_⟩
  obtain ⟨T, x, e1, e2, e3, e4⟩ := y
  exact ⟨T, .int (i : Nat), x, e1, e2, e3, rfl, e4 xs h⟩
theorem f_forE {K : PySem.W.Frag} {tr : TA} {g : TG} {tb : TS} {D : Ends} {σ : St} {H : Hp} (q : tr σ H fun vs H1 => ∃ a xs, vs = [.ref a] ∧ SqT K H1 a xs ∧ ∃ W : Nat → Nat → St → Hp → Prop, (∃ m, W 0 m σ H1) ∧ ∀ i m σ H, W i m σ H →
  ((ItEt K a).stop i H ∧ D.nx σ H) ∨ ((ItEt K a).go i H ∧ ∃ N : St → Hp → Prop, (∀ σ' H', N σ' H' → ∃ m', m' < m ∧ W (i + 1) m' σ' H') ∧ ∀ x H', (ItEt K a).yld i H x H' → g x σ H' fun σ2 H2 => tb { D with nx := N, ct := N, bk := D.nx } σ2 H2)) : tFor (iEnumT K tr) g tb D σ H := q
/-- zip of two tuples in a comprehension -/
theorem e_lcZ {K : PySem.W.Frag} {tr : TA} {g : TG} {tt : TT} {te : TE} {ws : List Nat} {σ : St} {H : Hp} {Q : VK} (q : tr σ H fun vs H1 => ∃ a b xs ys, vs = [.ref a, .ref b] ∧ ((SqL K H1 a xs ∧ SqL K H1 b ys ∧ (fun (J : It) (H1 : Hp) => ∀ D, H1 D = none → ∃ W : Nat → Nat → Hp → Prop, (∃ m, W 0 m (upd H1 D (.lst []))) ∧ ∀ i m H, W i m H →
  (J.stop i H ∧ Q (.ref D) H) ∨ (J.go i H ∧ ∃ Nx : Hp → Prop, (∀ H', Nx H' → ∃ m', m' < m ∧ W (i + 1) m' H') ∧ ∀ x H', J.yld i H x H' → g x (wipe σ ws) H' fun σ2 H2 => wipe σ2 ws = wipe σ ws ∧ tt σ2 H2 fun b H3 =>
    if b = true then te σ2 H3 fun y H4 => ∃ acc, H4 D = some (.lst acc) ∧ acc.length < sizeLine ∧ Nx (upd H4 D (.lst (acc ++ [y]))) else Nx H3)) (Itz K a b) H1) ∨ (SqT K H1 a xs ∧ SqT K H1 b ys ∧ ∀ D, H1 D = none → ∃ W : Nat → Nat → Hp → Prop, (∃ m, W 0 m (upd H1 D (.lst []))) ∧ ∀ i m H, W i m H →
  ((ItzT K a b).stop i H ∧ Q (.ref D) H) ∨ ((ItzT K a b).go i H ∧ ∃ Nx : Hp → Prop, (∀ H', Nx H' → ∃ m', m' < m ∧ W (i + 1) m' H') ∧ ∀ x H', (ItzT K a b).yld i H x H' → g x (wipe σ ws) H' fun σ2 H2 => wipe σ2 ws = wipe σ ws ∧ tt σ2 H2 fun b H3 =>
    if b = true then te σ2 H3 fun y H4 => ∃ acc, H4 D = some (.lst acc) ∧ acc.length < sizeLine ∧ Nx (upd H4 D (.lst (acc ++ [y]))) else Nx H3)))) : tLc (iZipA K tr) g tt te ws σ H Q := q
theorem walk_zipT {K : PySem.W.Frag} {a b : Addr} {xs ys : List V} {n : Nat} (hn : n = min xs.length ys.length) : Walk (ItzT K a b) n (fun H => SqT K H a xs ∧ SqT K H b ys) (YPair (fun i => xs[i]?) (fun i => ys[i]?)) := by
  refine ⟨fun i H hi h => ⟨xs, ys, xs[i]'(by omega), ys[i]'(by omega), h.1, h.2, List.getElem?_eq_getElem (by omega), List.getElem?_eq_getElem (by omega)⟩, fun H h => ⟨xs, ys, h.1, h.2, by omega⟩, fun i H x H' hi h y => ?_⟩
  obtain ⟨T, x, y, e1, e2, e3, e4, e5⟩ := y
  exact ⟨T, x, y, e1, e2, e3, e4 xs h.1, e5 ys h.2⟩
/-- a comprehension without a test whose elements keep what stands -/
theorem comp_w {J : It} {n : Nat} {G : Hp → Prop} {Y : Nat → Hp → V → Hp → Prop} (wk : Walk J n G Y) {g : TG} {te : TE} {vs : List Nat} {σ σw : St} {H : Hp} {QD : Addr → Hp → Prop} {ys : List V} (hw : wipe σ vs = σw) (hn : n ≤ 1000) (hy : ys.length = n) (hG : ∀ H', Same H H' → G H')
    (he : ∀ (i : Nat) (x y : V) (H2 H3 : Hp) (R : VK), i < n → ys[i]? = some y → Same H H2 → Y i H2 x H3 → (∀ H4, Same H2 H4 → R y H4) → g x σw H3 fun σ2 H4 => wipe σ2 vs = σw ∧ te σ2 H4 R)
    (q : ∀ D H', H D = none → Same H H' → H' D = some (.lst ys) → QD D H') :
    ∀ D, H D = none → ∃ W : Nat → Nat → Hp → Prop, (∃ m, W 0 m (upd H D (.lst []))) ∧ ∀ i m H, W i m H →
      (J.stop i H ∧ QD D H) ∨ (J.go i H ∧ ∃ Nx : Hp → Prop, (∀ H', Nx H' → ∃ m', m' < m ∧ W (i + 1) m' H') ∧ ∀ x H', J.yld i H x H' → g x (wipe σ vs) H' fun σ2 H2 => wipe σ2 vs = wipe σ vs ∧ tYes σ2 H2 fun b H3 =>
        if b = true then te σ2 H3 fun y H4 => ∃ acc, H4 D = some (.lst acc) ∧ acc.length < sizeLine ∧ Nx (upd H4 D (.lst (acc ++ [y]))) else Nx H3) := by
  intro D hD
  refine lc_it wk (fun i H' => Same H H' ∧ H' D = some (.lst (ys.take i))) ⟨same_upd hD, upd_same⟩ (fun i H' _ h => hG _ h.1) (fun i x H2 H3 hi h hyi => ?_) fun H' h => ?_
  · rw [hw]
    have hy' : ys[i]? = some ys[i] := List.getElem?_eq_getElem (by omega)
    obtain ⟨hs, hd⟩ := h
    refine he i x ys[i] H2 H3 _ hi hy' hs hyi fun H4 s4 => ?_
    refine ⟨ys.take i, s4 _ _ hd, ?_, ?_, ?_⟩
    · rw [List.length_take]
      exact Nat.lt_of_le_of_lt (Nat.min_le_left _ _) (small1000 (by omega))
    · intro b o hb
      rw [upd_ne (ne_of_none hb hD)]
      exact s4 _ _ (hs _ _ hb)
    · rw [upd_same, List.take_add_one, hy']
      rfl
  · rw [← hy, List.take_length] at h
    exact q D H' hD h.1 h.2
def topS (i : Nat) : Stmt := PySem.Challenge.pw_butfewrows_k02_whole_rows.main.body.getD i (.Pass ⟨0, 0, 0, 0⟩)
abbrev s_is_below : Stmt := topS 1
abbrev s_are_below : Stmt := topS 2
abbrev s_Machine_init : Stmt := inClass (topS 13) 0
abbrev s_Machine_steps : Stmt := inClass (topS 13) 1
abbrev s_Machine_good : Stmt := inClass (topS 13) 2
abbrev s_check_steps : Stmt := topS 14
abbrev s_are_leads : Stmt := topS 15
abbrev s_check_good : Stmt := topS 16
abbrev s_letters_of : Stmt := topS 17
abbrev s_check_row : Stmt := topS 18
abbrev s_stand_behind : Stmt := topS 19
abbrev s_lets : Stmt := topS 20
abbrev s__law_mix : Stmt := topS 22
abbrev s__law_next : Stmt := topS 23
abbrev s__law_alike : Stmt := topS 24
abbrev s__law_pick : Stmt := topS 25
abbrev s__law_parts : Stmt := topS 26
abbrev s__law_end : Stmt := topS 27
abbrev s_law : Stmt := topS 28
theorem sc_is_below : FnScope ["value", "limit"] ["value", "limit"] (defScope s_is_below) := ⟨rfl, rfl, rfl, by decide +kernel, rfl, by decide +kernel, by decide +kernel⟩
theorem sc_are_below : FnScope ["values", "limit", "value"] ["values", "limit"] (defScope s_are_below) := ⟨rfl, rfl, rfl, by decide +kernel, rfl, by decide +kernel, by decide +kernel⟩
theorem sc_Machine_init : FnScope ["self", "steps", "good"] ["self", "steps", "good"] (defScope s_Machine_init) := ⟨rfl, rfl, rfl, by decide +kernel, rfl, by decide +kernel, by decide +kernel⟩
theorem sc_Machine_steps : FnScope ["self"] ["self"] (defScope s_Machine_steps) := ⟨rfl, rfl, rfl, by decide +kernel, rfl, by decide +kernel, by decide +kernel⟩
theorem sc_Machine_good : FnScope ["self"] ["self"] (defScope s_Machine_good) := ⟨rfl, rfl, rfl, by decide +kernel, rfl, by decide +kernel, by decide +kernel⟩
theorem sc_check_steps : FnScope ["steps", "index", "leads"] ["steps"] (defScope s_check_steps) := ⟨rfl, rfl, rfl, by decide +kernel, rfl, by decide +kernel, by decide +kernel⟩
theorem sc_are_leads : FnScope ["leads", "stands"] ["leads", "stands"] (defScope s_are_leads) := ⟨rfl, rfl, rfl, by decide +kernel, rfl, by decide +kernel, by decide +kernel⟩
theorem sc_check_good : FnScope ["good", "stands", "one", "other"] ["good", "stands"] (defScope s_check_good) := ⟨rfl, rfl, rfl, by decide +kernel, rfl, by decide +kernel, by decide +kernel⟩
theorem sc_letters_of : FnScope ["machine"] ["machine"] (defScope s_letters_of) := ⟨rfl, rfl, rfl, by decide +kernel, rfl, by decide +kernel, by decide +kernel⟩
theorem sc_check_row : FnScope ["machine", "row", "index", "letter"] ["machine", "row"] (defScope s_check_row) := ⟨rfl, rfl, rfl, by decide +kernel, rfl, by decide +kernel, by decide +kernel⟩
theorem sc_stand_behind : FnScope ["machine", "row", "stand", "letter"] ["machine", "row"] (defScope s_stand_behind) := ⟨rfl, rfl, rfl, by decide +kernel, rfl, by decide +kernel, by decide +kernel⟩
theorem sc_lets : FnScope ["machine", "row"] ["machine", "row"] (defScope s_lets) := ⟨rfl, rfl, rfl, by decide +kernel, rfl, by decide +kernel, by decide +kernel⟩
theorem sc__law_mix : FnScope ["_law_script", "_law_seed", "_law_state", "_law_cell"] ["_law_script", "_law_seed"] (defScope s__law_mix) := ⟨rfl, rfl, rfl, by decide +kernel, rfl, by decide +kernel, by decide +kernel⟩
theorem sc__law_next : FnScope ["_law_h", "_law_cap", "_law_cell"] ["_law_h", "_law_cap"] (defScope s__law_next) := ⟨rfl, rfl, rfl, by decide +kernel, rfl, by decide +kernel, by decide +kernel⟩
theorem sc__law_alike : FnScope ["_law_found", "_law_due", "_law_k"] ["_law_found", "_law_due"] (defScope s__law_alike) := ⟨rfl, rfl, rfl, by decide +kernel, rfl, by decide +kernel, by decide +kernel⟩
theorem sc__law_pick : FnScope ["_law_h", "_law_things"] ["_law_h", "_law_things"] (defScope s__law_pick) := ⟨rfl, rfl, rfl, by decide +kernel, rfl, by decide +kernel, by decide +kernel⟩
theorem sc__law_parts : FnScope ["_law_h", "_law_letters", "_law_many", "_law_early", "_law_steps", "_law_good", "_law_stand", "_law_low", "_law_letter"] ["_law_h", "_law_letters"] (defScope s__law_parts) := ⟨rfl, rfl, rfl, by decide +kernel, rfl, by decide +kernel, by decide +kernel⟩
theorem sc__law_end : FnScope ["_law_parts_here", "_law_stand", "_law_row", "_law_letter"] ["_law_parts_here", "_law_stand", "_law_row"] (defScope s__law_end) := ⟨rfl, rfl, rfl, by decide +kernel, rfl, by decide +kernel, by decide +kernel⟩
theorem sc_law : FnScope ["_law_script", "_law_h", "_law_turn", "_law_letters", "_law_parts_here", "_law_machine", "_law_many", "_law_row", "_law_end_here", "_law_k"] ["_law_script"] (defScope s_law) := ⟨rfl, rfl, rfl, by decide +kernel, rfl, by decide +kernel, by decide +kernel⟩
/-- what the top has written -/
structure Txt (K : PySem.W.Frag) (mg : Str → Option Value) where
  z_all : mg "all" = none
  z_bool : mg "bool" = none
  z_enumerate : mg "enumerate" = none
  z_int : mg "int" = none
  z_isinstance : mg "isinstance" = none
  z_len : mg "len" = none
  z_list : mg "list" = none
  z_max : mg "max" = none
  z_min : mg "min" = none
  z_range : mg "range" = none
  z_str : mg "str" = none
  z_tuple : mg "tuple" = none
  z_zip : mg "zip" = none
  t_MOST_STANDS : Tok
  g_MOST_STANDS : mg "MOST_STANDS" = some (.int 8 t_MOST_STANDS)
  t_MOST_LETTERS : Tok
  g_MOST_LETTERS : mg "MOST_LETTERS" = some (.int 3 t_MOST_LETTERS)
  t_LONGEST_ROW : Tok
  g_LONGEST_ROW : mg "LONGEST_ROW" = some (.int 40 t_LONGEST_ROW)
  C_Machine : Addr
  c_Machine : Cls K C_Machine
  g_Machine : mg "Machine" = some (.ref C_Machine)
  n_Machine__steps : NoAttr K C_Machine "_steps"
  n_Machine__good : NoAttr K C_Machine "_good"
  a_is_below : Addr
  fd_is_below : FuncData
  F_is_below : Fun K "is_below" "is_below" s_is_below a_is_below fd_is_below
  b_is_below : Binds K fd_is_below ["value", "limit"] []
  g_is_below : mg "is_below" = some (.ref a_is_below)
  a_are_below : Addr
  fd_are_below : FuncData
  F_are_below : Fun K "are_below" "are_below" s_are_below a_are_below fd_are_below
  b_are_below : Binds K fd_are_below ["values", "limit"] []
  g_are_below : mg "are_below" = some (.ref a_are_below)
  a_Machine_init : Addr
  fd_Machine_init : FuncData
  F_Machine_init : Fun K "__init__" "Machine.__init__" s_Machine_init a_Machine_init fd_Machine_init
  b_Machine_init : Binds K fd_Machine_init ["self", "steps", "good"] []
  m_Machine : Mk K C_Machine a_Machine_init
  a_Machine_steps : Addr
  fd_Machine_steps : FuncData
  F_Machine_steps : Fun K "steps" "Machine.steps" s_Machine_steps a_Machine_steps fd_Machine_steps
  b_Machine_steps : Binds K fd_Machine_steps ["self"] []
  pa_Machine_steps : Addr
  p_Machine_steps : PropOf K C_Machine "steps" pa_Machine_steps a_Machine_steps
  a_Machine_good : Addr
  fd_Machine_good : FuncData
  F_Machine_good : Fun K "good" "Machine.good" s_Machine_good a_Machine_good fd_Machine_good
  b_Machine_good : Binds K fd_Machine_good ["self"] []
  pa_Machine_good : Addr
  p_Machine_good : PropOf K C_Machine "good" pa_Machine_good a_Machine_good
  a_check_steps : Addr
  fd_check_steps : FuncData
  F_check_steps : Fun K "check_steps" "check_steps" s_check_steps a_check_steps fd_check_steps
  b_check_steps : Binds K fd_check_steps ["steps"] []
  g_check_steps : mg "check_steps" = some (.ref a_check_steps)
  a_are_leads : Addr
  fd_are_leads : FuncData
  F_are_leads : Fun K "are_leads" "are_leads" s_are_leads a_are_leads fd_are_leads
  b_are_leads : Binds K fd_are_leads ["leads", "stands"] []
  g_are_leads : mg "are_leads" = some (.ref a_are_leads)
  a_check_good : Addr
  fd_check_good : FuncData
  F_check_good : Fun K "check_good" "check_good" s_check_good a_check_good fd_check_good
  b_check_good : Binds K fd_check_good ["good", "stands"] []
  g_check_good : mg "check_good" = some (.ref a_check_good)
  a_letters_of : Addr
  fd_letters_of : FuncData
  F_letters_of : Fun K "letters_of" "letters_of" s_letters_of a_letters_of fd_letters_of
  b_letters_of : Binds K fd_letters_of ["machine"] []
  g_letters_of : mg "letters_of" = some (.ref a_letters_of)
  a_check_row : Addr
  fd_check_row : FuncData
  F_check_row : Fun K "check_row" "check_row" s_check_row a_check_row fd_check_row
  b_check_row : Binds K fd_check_row ["machine", "row"] []
  g_check_row : mg "check_row" = some (.ref a_check_row)
  a_stand_behind : Addr
  fd_stand_behind : FuncData
  F_stand_behind : Fun K "stand_behind" "stand_behind" s_stand_behind a_stand_behind fd_stand_behind
  b_stand_behind : Binds K fd_stand_behind ["machine", "row"] []
  g_stand_behind : mg "stand_behind" = some (.ref a_stand_behind)
  a_lets : Addr
  fd_lets : FuncData
  F_lets : Fun K "lets" "lets" s_lets a_lets fd_lets
  b_lets : Binds K fd_lets ["machine", "row"] []
  g_lets : mg "lets" = some (.ref a_lets)
  a__law_mix : Addr
  fd__law_mix : FuncData
  F__law_mix : Fun K "_law_mix" "_law_mix" s__law_mix a__law_mix fd__law_mix
  b__law_mix : Binds K fd__law_mix ["_law_script", "_law_seed"] []
  g__law_mix : mg "_law_mix" = some (.ref a__law_mix)
  a__law_next : Addr
  fd__law_next : FuncData
  F__law_next : Fun K "_law_next" "_law_next" s__law_next a__law_next fd__law_next
  b__law_next : Binds K fd__law_next ["_law_h", "_law_cap"] []
  g__law_next : mg "_law_next" = some (.ref a__law_next)
  a__law_alike : Addr
  fd__law_alike : FuncData
  F__law_alike : Fun K "_law_alike" "_law_alike" s__law_alike a__law_alike fd__law_alike
  b__law_alike : Binds K fd__law_alike ["_law_found", "_law_due"] []
  g__law_alike : mg "_law_alike" = some (.ref a__law_alike)
  a__law_pick : Addr
  fd__law_pick : FuncData
  F__law_pick : Fun K "_law_pick" "_law_pick" s__law_pick a__law_pick fd__law_pick
  b__law_pick : Binds K fd__law_pick ["_law_h", "_law_things"] []
  g__law_pick : mg "_law_pick" = some (.ref a__law_pick)
  a__law_parts : Addr
  fd__law_parts : FuncData
  F__law_parts : Fun K "_law_parts" "_law_parts" s__law_parts a__law_parts fd__law_parts
  b__law_parts : Binds K fd__law_parts ["_law_h", "_law_letters"] []
  g__law_parts : mg "_law_parts" = some (.ref a__law_parts)
  a__law_end : Addr
  fd__law_end : FuncData
  F__law_end : Fun K "_law_end" "_law_end" s__law_end a__law_end fd__law_end
  b__law_end : Binds K fd__law_end ["_law_parts_here", "_law_stand", "_law_row"] []
  g__law_end : mg "_law_end" = some (.ref a__law_end)
  a_law : Addr
  fd_law : FuncData
  F_law : Fun K "law" "law" s_law a_law fd_law
  b_law : Binds K fd_law ["_law_script"] []
  g_law : mg "law" = some (.ref a_law)
/-! ### what values are -/
/-- a value of a known built-in type -/
inductive Kd (K : PySem.W.Frag) (H : Hp) : V → String → Prop
  | non : Kd K H .non "NoneType"
  | bl (b : Bool) : Kd K H (.bl b) "bool"
  | int (i : Int) : Kd K H (.int i) "int"
  | str (z : Str) : Kd K H (.str z) "str"
  | tup {a : Addr} {xs : List V} (h : SqT K H a xs) : Kd K H (.ref a) "tuple"
  | lst {a : Addr} {xs : List V} (h : H a = some (.lst xs)) : Kd K H (.ref a) "list"
theorem tyx_t {K : PySem.W.Frag} {H : Hp} {a : Addr} {xs : List V} (h : SqT K H a xs) : TyX K H (.ref a) (.type "tuple") := by
  rcases h with (h | ⟨o, h⟩) | ⟨o, its, n, h, c, _⟩
  · exact .base (.tup h)
  · exact .fTuple h
  · exact .kTuple h c
theorem Kd.ty {K : PySem.W.Frag} {H : Hp} {x : V} {t : String} (k : Kd K H x t) : TyX K H x (.type t) := by
  cases k with
  | non => exact .base .non
  | bl b => exact .base (.bl b)
  | int i => exact .base (.int i)
  | str z => exact .base (.str z)
  | tup h => exact tyx_t h
  | lst h => exact .base (.lst h)
theorem kb_ii : kitB "int" "int" = some true := by decide +kernel
theorem kb_bi : kitB "bool" "int" = some true := by decide +kernel
theorem kb_ni : kitB "NoneType" "int" = some false := by decide +kernel
theorem kb_si : kitB "str" "int" = some false := by decide +kernel
theorem kb_ti : kitB "tuple" "int" = some false := by decide +kernel
theorem kb_li : kitB "list" "int" = some false := by decide +kernel
theorem kb_ib : kitB "int" "bool" = some false := by decide +kernel
theorem kb_bb : kitB "bool" "bool" = some true := by decide +kernel
theorem kb_nt : kitB "NoneType" "tuple" = some false := by decide +kernel
theorem kb_bt : kitB "bool" "tuple" = some false := by decide +kernel
theorem kb_it : kitB "int" "tuple" = some false := by decide +kernel
theorem kb_st : kitB "str" "tuple" = some false := by decide +kernel
theorem kb_tt : kitB "tuple" "tuple" = some true := by decide +kernel
theorem kb_lt : kitB "list" "tuple" = some false := by decide +kernel
theorem kb_nl : kitB "NoneType" "list" = some false := by decide +kernel
theorem kb_bl : kitB "bool" "list" = some false := by decide +kernel
theorem kb_il : kitB "int" "list" = some false := by decide +kernel
theorem kb_sl : kitB "str" "list" = some false := by decide +kernel
theorem kb_tl : kitB "tuple" "list" = some false := by decide +kernel
theorem kb_ll : kitB "list" "list" = some true := by decide +kernel
theorem kb_ns : kitB "NoneType" "str" = some false := by decide +kernel
theorem kb_bs : kitB "bool" "str" = some false := by decide +kernel
theorem kb_is : kitB "int" "str" = some false := by decide +kernel
theorem kb_ss : kitB "str" "str" = some true := by decide +kernel
theorem kb_ts : kitB "tuple" "str" = some false := by decide +kernel
theorem kb_ls : kitB "list" "str" = some false := by decide +kernel
theorem st0 {t : TS} {D : Ends} {σ σ' : St} {H : Hp} (e : σ = σ') (h : t D σ' H) : t D σ H := by
  rw [e]
  exact h
/-- whether a value is an integer from 0 on and below a limit -/
def below : V → Int → Bool
  | .int i, n => decide (0 ≤ i) && decide (i < n)
  | _, _ => false
theorem below_int (i n : Int) : below (.int i) n = (decide (0 ≤ i) && decide (i < n)) := rfl
def spBelow (K : PySem.W.Frag) : Sp := fun vs H Q _ => ∃ (x : V) (n : Int) (t : String), vs = [x, .int n] ∧ Kd K H x t ∧ Q (.bl (below x n)) H
/-! ### tuples of ints, tuples of such, machines -/
def IntsT (K : PySem.W.Frag) (H : Hp) (v : V) (ns : List Int) : Prop := ∃ a, v = .ref a ∧ SqT K H a (ns.map V.int)
def RowsT (K : PySem.W.Frag) (H : Hp) (v : V) (rows : List (List Int)) : Prop :=
  ∃ a xs, v = .ref a ∧ SqT K H a xs ∧ xs.length = rows.length ∧ ∀ (i : Nat) (x : V) (r : List Int), xs[i]? = some x → rows[i]? = some r → IntsT K H x r
theorem IntsT.nl {K : PySem.W.Frag} {H H' : Hp} {v : V} {ns : List Int} (e : NL H H') (h : IntsT K H v ns) : IntsT K H' v ns := by
  obtain ⟨a, rfl, h⟩ := h
  exact ⟨a, rfl, e.t h⟩
theorem RowsT.nl {K : PySem.W.Frag} {H H' : Hp} {v : V} {rows : List (List Int)} (e : NL H H') (h : RowsT K H v rows) : RowsT K H' v rows := by
  obtain ⟨a, xs, rfl, h, l, p⟩ := h
  exact ⟨a, xs, rfl, e.t h, l, fun i x r h1 h2 => (p i x r h1 h2).nl e⟩
/-- a machine of L letters is as the document asks -/
structure OkM (L : Nat) (rows : List (List Int)) (good : List Int) : Prop where
  n1 : 1 ≤ rows.length
  n8 : rows.length ≤ 8
  l1 : 1 ≤ L
  l3 : L ≤ 3
  row : ∀ r ∈ rows, r.length = L ∧ ∀ z ∈ r, 0 ≤ z ∧ z < (rows.length : Int)
  gd : ∀ z ∈ good, 0 ≤ z ∧ z < (rows.length : Int)
  asc : good.Pairwise (· < ·)
theorem OkM.gl {L : Nat} {rows : List (List Int)} {good : List Int} (o : OkM L rows good) : good.length ≤ 8 := by
  have h1 : ∀ (l : List Int) (m : Int), l.Pairwise (· < ·) → (∀ z ∈ l, m ≤ z ∧ z < (rows.length : Int)) → (l.length : Int) ≤ (rows.length : Int) - m ∨ l = [] := by
    intro l
    induction l with
    | nil => intro m _ _; exact .inr rfl
    | cons x r ih =>
      intro m hp hb
      refine .inl ?_
      have hx := hb x List.mem_cons_self
      have hp' := List.pairwise_cons.mp hp
      rcases ih (x + 1) hp'.2 (fun z hz => ⟨by have := hp'.1 z hz; omega, (hb z (List.mem_cons_of_mem _ hz)).2⟩) with h | h
      · rw [List.length_cons]
        omega
      · subst h
        show ((0 + 1 : Nat) : Int) ≤ _
        omega
  have := o.n8
  rcases h1 good 0 o.asc o.gd with h | h
  · omega
  · rw [h]
    exact Nat.zero_le _
/-- the object: its fields in the order in which they are stored -/
def mflds (vs vg : V) : List (Str × V) := putF "_good" vg (putF "_steps" vs [])
theorem mf_ne : ¬ (("_steps" : Str) = "_good") := by decide +kernel
theorem mf_steps (vs vg : V) : (mflds vs vg).lookup ("_steps" : Str) = some vs := by
  unfold mflds
  rw [lookup_putF, if_neg mf_ne, lookup_putF, if_pos rfl]
theorem mf_good (vs vg : V) : (mflds vs vg).lookup ("_good" : Str) = some vg := by
  unfold mflds
  rw [lookup_putF, if_pos rfl]
structure MachAt (C : Addr) (K : PySem.W.Frag) (H : Hp) (v : V) (rows : List (List Int)) (good : List Int) : Prop where
  ex : ∃ a dx vs vg, v = .ref a ∧ H a = some (.ins C dx (mflds vs vg)) ∧ RowsT K H vs rows ∧ IntsT K H vg good
theorem MachAt.nl {C : Addr} {K : PySem.W.Frag} {H H' : Hp} {v : V} {rows : List (List Int)} {good : List Int} (e : NL H H') (h : MachAt C K H v rows good) : MachAt C K H' v rows good := by
  obtain ⟨a, dx, vs, vg, rfl, h, r, g⟩ := h.ex
  exact ⟨a, dx, vs, vg, rfl, e.ins h, r.nl e, g.nl e⟩
/-! ### comprehensions whose elements are plain -/
section
variable {K : PySem.W.Frag} {a : Addr} {xs ys : List V} {g : TG} {te : TE} {vs : List Nat} {σ σw : St} {H : Hp} {QD : Addr → Hp → Prop} {tl : TE}
/-- over a tuple, without a test; the elements keep what stands -/
theorem comp_t {a : Addr} (hw : wipe σ vs = σw) (hx : SqT K H a xs) (hl : xs.length ≤ 1000) (hy : ys.length = xs.length)
    (he : ∀ (i : Nat) (x y : V) (H2 : Hp) (R : VK), xs[i]? = some x → ys[i]? = some y → Same H H2 → (∀ H4, Same H2 H4 → R y H4) → g x σw H2 fun σ2 H3 => wipe σ2 vs = σw ∧ te σ2 H3 R)
    (q : ∀ D H', H D = none → Same H H' → H' D = some (.lst ys) → QD D H') :
    (∃ a', V.ref a = .ref a' ∧ (∃ xs, SqT K H a' xs) ∧ ∀ D, H D = none → ∃ W : Nat → Nat → Hp → Prop, (∃ m, W 0 m (upd H D (.lst []))) ∧ ∀ i m H, W i m H →
      ((Itt K a').stop i H ∧ QD D H) ∨ ((Itt K a').go i H ∧ ∃ Nx : Hp → Prop, (∀ H', Nx H' → ∃ m', m' < m ∧ W (i + 1) m' H') ∧ ∀ x H', (Itt K a').yld i H x H' → g x (wipe σ vs) H' fun σ2 H2 => wipe σ2 vs = wipe σ vs ∧ tYes σ2 H2 fun b H3 =>
        if b = true then te σ2 H3 fun y H4 => ∃ acc, H4 D = some (.lst acc) ∧ acc.length < sizeLine ∧ Nx (upd H4 D (.lst (acc ++ [y]))) else Nx H3)) := by
  refine ⟨a, rfl, ⟨xs, hx⟩, fun D hD => ?_⟩
  refine lc_tup (K := K) (a := a) (xs := xs) (fun i H' => Same H H' ∧ H' D = some (.lst (ys.take i))) ⟨same_upd hD, upd_same⟩ (fun i H' _ h => h.1.t hx) (fun i x H2 hi h => ?_) fun H' h => ?_
  · rw [hw]
    have hil : i < xs.length := (List.getElem?_eq_some_iff.mp hi).1
    have hy' : ys[i]? = some ys[i] := List.getElem?_eq_getElem (by omega)
    obtain ⟨hs, hd⟩ := h
    refine he i x ys[i] H2 _ hi hy' hs fun H4 s4 => ?_
    refine ⟨ys.take i, s4 _ _ hd, ?_, ?_, ?_⟩
    · rw [List.length_take]
      exact Nat.lt_of_le_of_lt (Nat.min_le_left _ _) (small1000 (by omega))
    · intro b o hb
      have nb : b ≠ D := ne_of_none hb hD
      rw [upd_ne nb]
      exact s4 _ _ (hs _ _ hb)
    · rw [upd_same, List.take_add_one, hy']
      rfl
  · rw [← hy, List.take_length] at h
    exact q D H' hD h.1 h.2
end
theorem all_bl {xs : List V} {n : Int} : ((xs.map fun x => below x n).all id) = xs.all fun x => below x n := by
  rw [List.all_map]
  rfl
theorem at_int {α : Type} {xs : List α} {z : Int} {v : α} (h0 : 0 ≤ z) (h : xs[z.toNat]? = some v) : atI xs z = some v := by
  have e : z = ((z.toNat : Nat) : Int) := by omega
  rw [e]
  exact atI_nat h
theorem getD_of {α : Type} {l : List α} {i : Nat} {d x : α} (h : l[i]? = some x) : l.getD i d = x := by
  rw [List.getD_eq_getElem?_getD, h]
  rfl
local macro_rules | `(tactic| walk_at "ev") => `(tactic| first | refine e_v0 ?_ | refine e_v1 ?_ | refine e_v2 ?_ | refine e_v3 ?_ | refine e_v4 ?_ | refine e_v5 ?_ | refine e_v6 ?_ | refine e_v7 ?_ | refine e_v8 ?_ | refine e_v9 ?_ | refine e_v10 ?_ | refine e_v11 ?_ | refine e_v12 ?_ | refine e_v13 ?_ | refine e_v14 ?_ | refine e_v15 ?_ | refine e_v16 ?_ | refine e_v17 ?_ | refine e_v18 ?_ | refine e_v19 ?_ | refine e_v20 ?_ | refine e_v21 ?_ | refine e_v22 ?_ | refine e_v23 ?_ | refine e_v24 ?_ | refine e_v25 ?_)
local macro_rules | `(tactic| walk_at "gn") => `(tactic| first | refine g_n0 ?_ | refine g_n1 ?_ | refine g_n2 ?_ | refine g_n3 ?_ | refine g_n4 ?_ | refine g_n5 ?_ | refine g_n6 ?_ | refine g_n7 ?_ | refine g_n8 ?_ | refine g_n9 ?_ | refine g_n10 ?_ | refine g_n11 ?_ | refine g_n12 ?_ | refine g_n13 ?_ | refine g_n14 ?_ | refine g_n15 ?_ | refine g_n16 ?_ | refine g_n17 ?_ | refine g_n18 ?_ | refine g_n19 ?_ | refine g_n20 ?_ | refine g_n21 ?_ | refine g_n22 ?_ | refine g_n23 ?_ | refine g_n24 ?_ | refine g_n25 ?_)
local macro_rules | `(tactic| walk_at "st") => `(tactic| with_reducible first | refine s_nx ?_ | refine s_rt ?_ | refine s_bk ?_ | refine s_ct ?_ | refine s_seq ?_ | refine s_next ?_ | refine s_asg ?_ | refine s_par ?_ | refine s_exp ?_ | refine s_ret ?_ | refine s_if ?_ | refine s_brk ?_ | refine s_cnt ?_ | refine e_c ?_ | walk_at "ev" | walk_at "gn" | refine g_sub ?_ | refine e_op ?_ | refine e_un ?_ | refine e_test ?_ | refine e_tB ?_ | refine e_and ?_ | refine e_or ?_ | refine e_not ?_ | refine e_andV ?_ | refine e_orV ?_ | refine e_notV ?_ | refine e_ife ?_ | refine e_chain ?_ | refine e_tup ?_ | refine e_lst ?_ | refine a_nil ?_ | refine a_cons ?_ | refine e_cb ?_ | refine e_call ?_ | refine e_make ?_ | refine e_prop ?_ | refine e_bm ?_ | refine e_bm0 ?_ | refine e_sl ?_ | refine o_none ?_ | refine o_some ?_ | refine ex_bl ?_ | refine ex_int ?_ | refine i_t ?_ | refine i_f ?_ | refine i_nt ?_ | refine i_nf ?_ | refine add_i ?_ | refine r_i0 ?_ | refine eq_i ?_ | refine ne_i ?_ | refine eq_tt ?_ | refine eq_ff ?_ | refine eq_tf ?_ | refine eq_ft ?_ | refine ne_tt ?_ | refine ne_ff ?_ | refine ne_tf ?_ | refine ne_ft ?_ | refine eq_b ?_ | refine int_i ?_ | refine max_i ?_ | refine min_i ?_ | refine ne_b ?_)
local macro_rules | `(tactic| walk_at "go") => `(tactic| repeat walk_at "st")
section
variable {P : Program} {w : World} {K : PySem.W.Frag} {mg : Str → Option Value} {base : Heap}
theorem ok_is_below (T : Txt K mg) : FnOk P w K mg base CX0 1 T.a_is_below T.fd_is_below ["value", "limit"] (spBelow K) := by
  refine T.F_is_below.ok sc_is_below (fun vs H Q E h => ?_) (fun cdv A outer s H vs Q E hr h => ?_)
  · obtain ⟨x, n, t, rfl, _⟩ := h
    rfl
  · obtain ⟨x, n, t, rfl, k, q⟩ := h
    refine ⟨_, (pss_one (ps_ret (pe_and (pe_callB (r := rIsi K) call_isi (by rfl) T.z_isinstance (by decide +kernel) (pa_cons (pv 0) (pa_cons (pe_bltn (v := .ty "int") (by rfl) T.z_int (by decide +kernel) rfl) pa_nil))) (pe_and (pe_not (pe_callB (r := rIsi K) call_isi (by rfl) T.z_isinstance (by decide +kernel) (pa_cons (pv 0) (pa_cons (pe_bltn (v := .ty "bool") (by rfl) T.z_bool (by decide +kernel) rfl) pa_nil)))) (pe_one (pe_chain op_le op_lt pe_int (pv 0) (pv 1))))))), ?_⟩
    refine st0 (σ' := [some _, some _]) rfl ?_
    cases k with
    | int i =>
      walk_at "go"
      refine isi (Kd.int i).ty kb_ii ?_
      walk_at "go"
      refine isi (Kd.int i).ty kb_ib ?_
      walk_at "go"
      refine i_d (fun h0 => ?_) (fun h0 => ?_)
      · walk_at "go"
        rw [show below (.int i) n = decide (i < n) by rw [below_int, decide_eq_true h0]; rfl] at q
        exact q
      · walk_at "go"
        rw [show below (.int i) n = false by rw [below_int, decide_eq_false h0]; rfl] at q
        exact q
    | bl b =>
      walk_at "go"
      refine isi (Kd.bl b).ty kb_bi ?_
      walk_at "go"
      refine isi (Kd.bl b).ty kb_bb ?_
      walk_at "go"
      exact q
    | non =>
      walk_at "go"
      refine isi Kd.non.ty kb_ni ?_
      walk_at "go"
      exact q
    | str z =>
      walk_at "go"
      refine isi (Kd.str z).ty kb_si ?_
      walk_at "go"
      exact q
    | tup hh =>
      walk_at "go"
      refine isi (Kd.tup hh).ty kb_ti ?_
      walk_at "go"
      exact q
    | lst hh =>
      walk_at "go"
      refine isi (Kd.lst hh).ty kb_li ?_
      walk_at "go"
      exact q
/-! ### the program: machines, all as it should be -/
def spAre (K : PySem.W.Frag) : Sp := fun vs H Q _ => ∃ (x : V) (n : Int), vs = [x, .int n] ∧
  ((∃ a xs, x = .ref a ∧ SqT K H a xs ∧ xs.length ≤ 1000 ∧ (∀ y ∈ xs, ∃ t, ∀ H', Kd K H' y t) ∧ ∀ H', Same H H' → Q (.bl (xs.all fun x => below x n)) H') ∨ (∃ t, Kd K H x t ∧ kitB t "tuple" = some false ∧ Q (.bl false) H))
theorem ok_are_below (T : Txt K mg) : FnOk P w K mg base CX0 2 T.a_are_below T.fd_are_below ["values", "limit"] (spAre K) := by
  refine T.F_are_below.ok sc_are_below (fun vs H Q E h => ?_) (fun cdv A outer s H vs Q E hr h => ?_)
  · obtain ⟨x, n, rfl, _⟩ := h
    rfl
  · obtain ⟨x, n, rfl, h⟩ := h
    refine ⟨_, (pss_one (ps_ret (pe_and (pe_callB (r := rIsi K) call_isi (by rfl) T.z_isinstance (by decide +kernel) (pa_cons (pv 0) (pa_cons (pe_bltn (v := .ty "tuple") (by rfl) T.z_tuple (by decide +kernel) rfl) pa_nil))) (pe_one (pe_callB (r := rAll K) (cr_all rfl) (by rfl) T.z_all (by decide +kernel) (pa_cons (pe_lc (own := [("value", 2)]) (g := (gName 2)) (tt := tYes) rfl sc_are_below.nd (pi_seq (pv 0)) (blkOk_by (N := ["values", "limit", "value"]) (sc := defScope s_are_below) (by decide +kernel)) (fun _ _ _ _ _ => (pg_name (i := 2) sc_are_below.nd rfl (Or.inl rfl))) (fun _ _ _ _ _ => pts_nil) (fun _ _ _ _ _ => (pe_call (ok_is_below T) (hr.mono (by decide)) (by rfl) T.g_is_below T.F_is_below.kp T.b_is_below .nil pass0 (pa_cons (pv 2) (pa_cons (pv 1) pa_nil))))) pa_nil)))))), ?_⟩
    refine st0 (σ' := [some _, some _, none]) rfl ?_
    rcases h with ⟨a, xs, rfl, hx, hl, hk, q⟩ | ⟨t, k, kt, q⟩
    · walk_at "go"
      refine isi (tyx_t hx) kb_tt ?_
      walk_at "go"
      refine e_lcT ?_
      walk_at "go"
      refine comp_t (K := K) (σw := [some (.ref a), some (.int n), none]) (ys := (xs.map fun x => below x n).map V.bl) rfl hx hl (by simp) ?_ ?_
      · intro i x y H2 R hxi hyi s2 hR
        walk_at "go"
        refine ⟨rfl, ?_⟩
        obtain ⟨t, kt⟩ := hk x (List.mem_of_getElem? hxi)
        walk_at "go"
        refine ⟨x, n, t, rfl, kt _, ?_⟩
        have ey : y = .bl (below x n) := by
          rw [List.getElem?_map, List.getElem?_map, hxi] at hyi
          exact (Option.some.inj hyi).symm
        rw [← ey]
        exact hR _ (Same.refl _)
      · intro D H' hD s hd
        walk_at "go"
        refine ⟨D, _, rfl, sqL hd, ?_⟩
        rw [all_bl]
        exact q _ s
    · walk_at "go"
      refine isi k.ty kt ?_
      walk_at "go"
      exact q
def leadsV (xs : List V) (n : Int) : Bool := decide (1 ≤ xs.length) && decide (xs.length ≤ 3) && xs.all fun x => below x n
def spLeads (K : PySem.W.Frag) : Sp := fun vs H Q _ => ∃ (x : V) (n : Int), vs = [x, .int n] ∧
  ((∃ a xs, x = .ref a ∧ SqT K H a xs ∧ xs.length ≤ 1000 ∧ (∀ y ∈ xs, ∃ t, ∀ H', Kd K H' y t) ∧ ∀ H', Same H H' → Q (.bl (leadsV xs n)) H') ∨ (∃ t, Kd K H x t ∧ kitB t "tuple" = some false ∧ Q (.bl false) H))
theorem ok_are_leads (T : Txt K mg) : FnOk P w K mg base CX0 3 T.a_are_leads T.fd_are_leads ["leads", "stands"] (spLeads K) := by
  refine T.F_are_leads.ok sc_are_leads (fun vs H Q E h => ?_) (fun cdv A outer s H vs Q E hr h => ?_)
  · obtain ⟨x, n, rfl, _⟩ := h
    rfl
  · obtain ⟨x, n, rfl, h⟩ := h
    refine ⟨_, (pss_one (ps_ret (pe_and (pe_call (ok_are_below T) (hr.mono (by decide)) (by rfl) T.g_are_below T.F_are_below.kp T.b_are_below .nil pass0 (pa_cons (pv 0) (pa_cons (pv 1) pa_nil))) (pe_one (pe_chain op_le op_le pe_int (pe_callB (r := rLenU K) call_lenU (by rfl) T.z_len (by decide +kernel) (pa_cons (pv 0) pa_nil)) (pe_glob (v := .int 3) (by rfl) T.g_MOST_LETTERS ⟨_, rfl⟩)))))), ?_⟩
    refine st0 (σ' := [some _, some _]) rfl ?_
    rcases h with ⟨a, xs, rfl, hx, hl, hk, q⟩ | ⟨t, k, kt, q⟩
    · walk_at "go"
      refine ⟨_, _, rfl, .inl ⟨a, xs, rfl, hx, hl, hk, fun H4 s4 => ?_⟩⟩
      cases hv : (xs.all fun x => below x n) with
      | false =>
        walk_at "go"
        rw [show leadsV xs n = false by unfold leadsV; rw [hv]; simp] at q
        exact q _ s4
      | true =>
        walk_at "go"
        refine len_t (s4.t hx) ?_
        walk_at "go"
        refine i_d (fun h1 => ?_) (fun h1 => ?_)
        · walk_at "go"
          rw [show leadsV xs n = decide ((xs.length : Int) ≤ 3) by
            unfold leadsV
            rw [hv, decide_eq_true (p := 1 ≤ xs.length) (by omega), Bool.and_true, Bool.true_and]
            by_cases h3 : xs.length ≤ 3
            · rw [decide_eq_true h3, decide_eq_true (by omega)]
            · rw [decide_eq_false h3, decide_eq_false (by omega)]] at q
          exact q _ s4
        · walk_at "go"
          rw [show leadsV xs n = false by unfold leadsV; rw [decide_eq_false (p := 1 ≤ xs.length) (by omega)]; rfl] at q
          exact q _ s4
    · walk_at "go"
      refine ⟨_, _, rfl, .inr ⟨t, k, kt, ?_⟩⟩
      walk_at "go"
      exact q
theorem kd_int (i : Int) : ∃ t, ∀ H', Kd K H' (.int i) t := ⟨"int", fun _ => .int i⟩
theorem below_all {ns : List Int} {n : Int} (h : ∀ z ∈ ns, 0 ≤ z ∧ z < n) : ((ns.map V.int).all fun x => below x n) = true := by
  rw [List.all_eq_true]
  intro x hx
  obtain ⟨z, hz, rfl⟩ := List.mem_map.mp hx
  rw [below_int, decide_eq_true (h z hz).1, decide_eq_true (h z hz).2]
  rfl
theorem leads_ok {ns : List Int} {n : Int} {L : Nat} (hl : ns.length = L) (l1 : 1 ≤ L) (l3 : L ≤ 3) (h : ∀ z ∈ ns, 0 ≤ z ∧ z < n) : leadsV (ns.map V.int) n = true := by
  unfold leadsV
  rw [List.length_map, decide_eq_true (p := 1 ≤ ns.length) (by omega), decide_eq_true (p := ns.length ≤ 3) (by omega), below_all h]
  rfl
/-- what check_steps asks of steps that are as they should be -/
def OkS (L : Nat) (rows : List (List Int)) : Prop := 1 ≤ rows.length ∧ rows.length ≤ 8 ∧ 1 ≤ L ∧ L ≤ 3 ∧ ∀ r ∈ rows, r.length = L ∧ ∀ z ∈ r, 0 ≤ z ∧ z < (rows.length : Int)
def spSteps (K : PySem.W.Frag) : Sp := fun vs H Q _ => ∃ (v : V) (L : Nat) (rows : List (List Int)), vs = [v] ∧ RowsT K H v rows ∧ OkS L rows ∧ ∀ H', Same H H' → Q .non H'
theorem ok_check_steps (T : Txt K mg) : FnOk P w K mg base CX0 4 T.a_check_steps T.fd_check_steps ["steps"] (spSteps K) := by
  refine T.F_check_steps.ok sc_check_steps (fun vs H Q E h => ?_) (fun cdv A outer s H vs Q E hr h => ?_)
  · obtain ⟨v, L, rows, rfl, _⟩ := h
    rfl
  · obtain ⟨v, L, rows, rfl, ⟨a, xs, rfl, hx, hlen, hp⟩, ⟨n1, n8, l1, l3, hrow⟩, q⟩ := h
    refine ⟨_, (pss_cons (ps_if (PW.pt (pw_or (pt_not (pt_val (pe_callB (r := rIsi K) call_isi (by rfl) T.z_isinstance (by decide +kernel) (pa_cons (pv 0) (pa_cons (pe_bltn (v := .ty "tuple") (by rfl) T.z_tuple (by decide +kernel) rfl) pa_nil))))) (pw_or1 (pt_not (pt_chain op_le op_le pe_int (pe_callB (r := rLenU K) call_lenU (by rfl) T.z_len (by decide +kernel) (pa_cons (pv 0) pa_nil)) (pe_glob (v := .int 8) (by rfl) T.g_MOST_STANDS ⟨_, rfl⟩)))))) (pss_one ps_never) pss_nil)
 (pss_one (ps_for PassesOwn.never rfl (pi_enumT (by rfl) T.z_enumerate (pa_cons (pv 0) pa_nil)) (pg_tup rfl (pgs_cons (pg_name (i := 1) sc_check_steps.nd rfl (Or.inl rfl)) (pgs_cons (pg_name (i := 2) sc_check_steps.nd rfl (Or.inl rfl)) pgs_nil)))
 (pss_one (ps_if (PW.pt (pw_or (pt_not (pt_val (pe_call (ok_are_leads T) (hr.mono (by decide)) (by rfl) T.g_are_leads T.F_are_leads.kp T.b_are_leads .nil pass0 (pa_cons (pv 2) (pa_cons (pe_callB (r := rLenU K) call_lenU (by rfl) T.z_len (by decide +kernel) (pa_cons (pv 0) pa_nil)) pa_nil))))) (pw_or1 (pt_cmpR (r := rNeU K) (op_neU hr.units) (pe_callB (r := rLenU K) call_lenU (by rfl) T.z_len (by decide +kernel) (pa_cons (pv 2) pa_nil)) (pe_callB (r := rLenU K) call_lenU (by rfl) T.z_len (by decide +kernel) (pa_cons (pe_ix (r := rIx K) ix_seq (pv 0) pe_int (fun _ _ => rfl)) pa_nil)) (nomark _))))) (pss_one ps_never) pss_nil))))), ?_⟩
    refine st0 (σ' := [some _, none, none]) rfl ?_
    walk_at "go"
    refine isi (tyx_t hx) kb_tt ?_
    walk_at "go"
    refine len_t hx ?_
    walk_at "go"
    refine i_dT (by omega) ?_
    walk_at "go"
    refine i_nd (fun h3 => absurd (show (xs.length : Int) ≤ 8 by omega) h3) (fun _ => ?_)
    walk_at "go"
    refine f_forE ?_
    walk_at "go"
    refine ⟨a, xs, rfl, hx, for_it (walk_enumT (K := K) (xs := xs)) (fun i σ H2 => ∃ y1 y2, σ = [some (.ref a), y1, y2] ∧ Same H H2) ⟨none, none, rfl, Same.refl _⟩ (fun i σ H2 _ h => ?_) (fun i x σ H2 H3 hi h hy => ?_) (fun σ H2 h => ?_)⟩
    · obtain ⟨_, _, _, s⟩ := h
      exact s.t hx
    · obtain ⟨y1, y2, rfl, s⟩ := h
      obtain ⟨t, u1, u2, rfl, ht, e3, eu1, eu2⟩ := hy
      obtain ⟨s3, h3⟩ := new_same ht e3
      have sx := s.trans s3
      have hr0 : ∃ r, rows[i]? = some r := ⟨rows[i]'(by omega), List.getElem?_eq_getElem (by omega)⟩
      obtain ⟨r, hri⟩ := hr0
      obtain ⟨b, rfl, hb⟩ := (hp i u2 r eu2 hri).nl sx.nl
      obtain ⟨hrl, hrz⟩ := hrow r (List.mem_of_getElem? hri)
      have hx0 : ∃ x0, xs[0]? = some x0 := ⟨xs[0]'(by omega), List.getElem?_eq_getElem (by omega)⟩
      obtain ⟨x0, hx0⟩ := hx0
      have hr0 : ∃ r, rows[0]? = some r := ⟨rows[0]'(by omega), List.getElem?_eq_getElem (by omega)⟩
      obtain ⟨r0, hr0⟩ := hr0
      obtain ⟨b0, rfl, hb0⟩ := hp 0 x0 r0 hx0 hr0
      have hr0l := (hrow r0 (List.mem_of_getElem? hr0)).1
      refine g_pair (sqT h3) (σ' := [some (.ref a), some u1, some (.ref b)]) rfl ?_
      walk_at "go"
      refine len_t (sx.t hx) ?_
      walk_at "go"
      refine ⟨_, _, rfl, .inl ⟨b, _, rfl, hb, ?_, ?_, fun H4 s4 => ?_⟩⟩
      · rw [List.length_map]
        omega
      · intro y hy
        obtain ⟨z, _, rfl⟩ := List.mem_map.mp hy
        exact kd_int z
      · rw [leads_ok hrl l1 l3 (by
          intro z hz
          rw [hlen]
          exact hrz z hz)]
        walk_at "go"
        refine len_t (s4.t hb) ?_
        walk_at "go"
        refine ix_t ((sx.trans s4).t hx) (atI_nat (j := 0) hx0) ?_
        walk_at "go"
        refine len_t ((sx.trans s4).t hb0) ?_
        walk_at "go"
        refine i_nd (fun ne => absurd ?_ ne) (fun _ => ?_)
        · rw [List.length_map, List.length_map, hrl, hr0l]
        · walk_at "go"
          exact ⟨_, _, rfl, sx.trans s4⟩
    · obtain ⟨y1, y2, rfl, s⟩ := h
      exact q _ s
def spGood (K : PySem.W.Frag) : Sp := fun vs H Q _ => ∃ (v : V) (n : Int) (gs : List Int), vs = [v, .int n] ∧ IntsT K H v gs ∧ gs.length ≤ 8 ∧ (∀ z ∈ gs, 0 ≤ z ∧ z < n) ∧ gs.Pairwise (· < ·) ∧ ∀ H', Same H H' → Q .non H'
theorem rep_all (n : Nat) : (List.replicate n true).all id = true := by
  rw [List.all_eq_true]
  intro x hx
  rw [List.eq_of_mem_replicate hx]
  rfl
theorem ok_check_good (T : Txt K mg) : FnOk P w K mg base CX0 3 T.a_check_good T.fd_check_good ["good", "stands"] (spGood K) := by
  refine T.F_check_good.ok sc_check_good (fun vs H Q E h => ?_) (fun cdv A outer s H vs Q E hr h => ?_)
  · obtain ⟨v, n, gs, rfl, _⟩ := h
    rfl
  · obtain ⟨v, n, gs, rfl, ⟨a, rfl, hx⟩, hl, hz, hp, q⟩ := h
    refine ⟨_, (pss_cons (ps_if (pt_not (pt_val (pe_call (ok_are_below T) (hr.mono (by decide)) (by rfl) T.g_are_below T.F_are_below.kp T.b_are_below .nil pass0 (pa_cons (pv 0) (pa_cons (pv 1) pa_nil))))) (pss_one ps_never) pss_nil)
 (pss_one (ps_if (pt_not (pt_val (pe_callB (r := rAll K) (cr_all rfl) (by rfl) T.z_all (by decide +kernel) (pa_cons (pe_lc (own := [("one", 2), ("other", 3)]) (g := (gTup K 2 (gCons (gName 2) (gCons (gName 3) gNil)))) (tt := tYes) rfl sc_check_good.nd (pi_zipA (by rfl) T.z_zip (pa_cons (pv 0) (pa_cons (pe_slice (r := rSlU K) sl_U (pv 0) (po_some pe_int) po_none) pa_nil))) (blkOk_by (N := ["good", "stands", "one", "other"]) (sc := defScope s_check_good) (by decide +kernel)) (fun _ _ _ _ _ => (pg_tup rfl (pgs_cons (pg_name (i := 2) sc_check_good.nd rfl (Or.inl rfl)) (pgs_cons (pg_name (i := 3) sc_check_good.nd rfl (Or.inl rfl)) pgs_nil)))) (fun _ _ _ _ _ => pts_nil) (fun _ _ _ _ _ => (pe_cmpR op_lt (pv 2) (pv 3) (nomark _)))) pa_nil)))) (pss_one ps_never) pss_nil))), ?_⟩
    refine st0 (σ' := [some _, some _, none, none]) rfl ?_
    walk_at "go"
    refine ⟨_, _, rfl, .inl ⟨a, _, rfl, hx, (by rw [List.length_map]; omega), fun y hy => ?_, fun H1 s1 => ?_⟩⟩
    · obtain ⟨z, _, rfl⟩ := List.mem_map.mp hy
      exact kd_int z
    · rw [below_all hz]
      walk_at "go"
      refine e_lcZ ?_
      walk_at "go"
      refine sl_t (s1.t hx) fun p H2 s2 h2 => ?_
      walk_at "go"
      refine ⟨a, p, _, _, rfl, .inr ⟨(s1.trans s2).t hx, h2, ?_⟩⟩
      have hcut : cutV (gs.map V.int) (some 1) none = (gs.drop 1).map V.int := by
        unfold cutV
        rw [show HT.sIx (gs.map V.int).length 0 (some 1) = min 1 (gs.map V.int).length from HT.sIx_nat _ 0 1, HT.sIx_none]
        cases gs with
        | nil => rfl
        | cons x r =>
          rw [show min 1 (List.map V.int (x :: r)).length = 1 by rw [List.length_map, List.length_cons]; omega]
          show List.take (_ - 1) (r.map V.int) = r.map V.int
          exact List.take_of_length_le (by rw [List.length_map, List.length_map, List.length_cons]; omega)
      rw [hcut] at h2
      refine comp_w (walk_zipT (n := gs.length - 1) (by rw [List.length_map, List.length_map, List.length_drop]; omega)) (σw := [some (.ref a), some (.int n), none, none]) (ys := (List.replicate (gs.length - 1) true).map V.bl) rfl (by omega) (by simp) (fun H' s' => ⟨(s1.trans (s2.trans s')).t hx, s'.t h2⟩) ?_ ?_
      · intro i x y H3 H4 R hi hyi s3 hY hR
        obtain ⟨t, u1, u2, rfl, ht, e4, eu1, eu2⟩ := hY
        obtain ⟨s4, h4⟩ := new_same ht e4
        replace eu1 : (gs.map V.int)[i]? = some u1 := eu1
        replace eu2 : ((gs.drop 1).map V.int)[i]? = some u2 := eu2
        rw [List.getElem?_map] at eu1 eu2
        obtain ⟨z1, hz1, rfl⟩ := Option.map_eq_some_iff.mp eu1
        obtain ⟨z2, hz2, rfl⟩ := Option.map_eq_some_iff.mp eu2
        refine g_pair (sqT h4) (σ' := [some (.ref a), some (.int n), some (.int z1), some (.int z2)]) rfl ?_
        refine ⟨rfl, ?_⟩
        walk_at "go"
        have hlt : z1 < z2 := by
          rw [List.getElem?_drop, Nat.add_comm] at hz2
          obtain ⟨b1, e1⟩ := List.getElem?_eq_some_iff.mp hz1
          obtain ⟨b2, e2⟩ := List.getElem?_eq_some_iff.mp hz2
          rw [← e1, ← e2]
          exact List.pairwise_iff_getElem.mp hp i (i + 1) b1 b2 (by omega)
        rw [decide_eq_true hlt]
        have ey : y = .bl true := by
          obtain ⟨b, hb, rfl⟩ := List.mem_map.mp (List.mem_of_getElem? hyi)
          rw [List.eq_of_mem_replicate hb]
        rw [ey] at hR
        exact hR _ s4
      · intro D2 H3 hD2 s3 hd2
        walk_at "go"
        refine ⟨D2, _, rfl, sqL hd2, ?_⟩
        rw [rep_all]
        walk_at "go"
        exact q _ (s1.trans (s2.trans s3))
def spInit (C : Addr) (K : PySem.W.Frag) : Sp := fun vs H Q _ => ∃ (p dx : Addr) (v vg : V) (L : Nat) (rows : List (List Int)) (gs : List Int), vs = [.ref p, v, vg] ∧ H p = some (.ins C dx []) ∧ RowsT K H v rows ∧ IntsT K H vg gs ∧ OkM L rows gs ∧
  ∀ H', MachAt C K H' (.ref p) rows gs → But [p] H H' → Q .non H'
theorem mk_mach {C : Addr} {K : PySem.W.Frag} {H : Hp} {v vg : V} {L : Nat} {rows : List (List Int)} {gs : List Int} {E : XK} {Q : VK} (hv : RowsT K H v rows) (hg : IntsT K H vg gs) (hok : OkM L rows gs)
    (q : ∀ x H', H x = none → Same H H' → MachAt C K H' (.ref x) rows gs → Q (.ref x) H') : mkO C (spInit C K) E Q [v, vg] H := by
  intro x dx nx ndx nex
  have e5 : Same H (upd (upd H dx (.own x)) x (.ins C dx [])) := fun b o e => by
    rw [upd_ne (ne_of_none e nx), upd_ne (ne_of_none e ndx)]
    exact e
  refine ⟨x, dx, v, vg, L, rows, gs, rfl, upd_same, hv.nl e5.nl, hg.nl e5.nl, hok, fun H5 hM bt => ⟨rfl, ?_⟩⟩
  refine q x H5 nx (fun b o e => bt b o (e5 b o e) fun mm => ?_) hM
  rw [List.mem_singleton.mp mm, nx] at e
  cases e
theorem ok_Machine_init (T : Txt K mg) : FnOk P w K mg base CX0 5 T.a_Machine_init T.fd_Machine_init ["self", "steps", "good"] (spInit T.C_Machine K) := by
  refine T.F_Machine_init.ok sc_Machine_init (fun vs H Q E h => ?_) (fun cdv A outer s H vs Q E hr h => ?_)
  · obtain ⟨p, dx, v, vg, L, rows, gs, rfl, _⟩ := h
    rfl
  · obtain ⟨p, dx, v, vg, L, rows, gs, rfl, hp, hv, hg, hok, q⟩ := h
    refine ⟨_, (pss_cons (ps_expr (pe_call (ok_check_steps T) (hr.mono (by decide)) (by rfl) T.g_check_steps T.F_check_steps.kp T.b_check_steps .nil pass0 (pa_cons (pv 1) pa_nil)))
 (pss_cons (ps_expr (pe_call (ok_check_good T) (hr.mono (by decide)) (by rfl) T.g_check_good T.F_check_good.kp T.b_check_good .nil pass0 (pa_cons (pv 2) (pa_cons (pe_callB (r := rLenU K) call_lenU (by rfl) T.z_len (by decide +kernel) (pa_cons (pv 1) pa_nil)) pa_nil))))
 (pss_cons (ps_fld (pv 0) (pv 1) rfl)
 (pss_one (ps_fld (pv 0) (pv 2) rfl))))), ?_⟩
    refine st0 (σ' := [some _, some _, some _]) rfl ?_
    walk_at "go"
    refine ⟨v, L, rows, rfl, hv, ⟨hok.n1, hok.n8, hok.l1, hok.l3, hok.row⟩, fun H1 s1 => ?_⟩
    walk_at "go"
    obtain ⟨a, xs, rfl, hx, hlen, hxp⟩ := id hv
    refine len_t (s1.t hx) ?_
    walk_at "go"
    refine ⟨vg, _, gs, rfl, hg.nl s1.nl, hok.gl, ?_, hok.asc, fun H2 s2 => ?_⟩
    · intro z hz
      rw [hlen]
      exact hok.gd z hz
    · have s3 := s1.trans s2
      walk_at "go"
      refine ⟨.ref a, rfl, .ref p, rfl, p, T.C_Machine, dx, [], rfl, s3 _ _ hp, T.c_Machine, T.n_Machine__steps, by decide, ?_⟩
      walk_at "go"
      refine ⟨vg, rfl, .ref p, rfl, p, T.C_Machine, dx, _, rfl, upd_same, T.c_Machine, T.n_Machine__good, (by show 1 < 1000; decide), ?_⟩
      walk_at "go"
      have bt : But [p] H (upd (upd H2 p (.ins T.C_Machine dx (putF "_steps" (.ref a) []))) p (.ins T.C_Machine dx (putF "_good" vg (putF "_steps" (.ref a) [])))) := by
        intro b o hb nb
        have nb' : b ≠ p := fun e => nb (by rw [e]; exact List.mem_cons_self)
        rw [upd_ne nb', upd_ne nb']
        exact s3 _ _ hb
      have nb : ∀ (t : Addr) (ys : List V), SqT K H t ys → SqT K (upd (upd H2 p (.ins T.C_Machine dx (putF "_steps" (.ref a) []))) p (.ins T.C_Machine dx (putF "_good" vg (putF "_steps" (.ref a) [])))) t ys := by
        intro t ys ht
        rcases ht with (ht | ⟨o, ht⟩) | ht
        · exact .inl (.inl (bt _ _ ht fun m => by
            rw [List.mem_singleton.mp m, hp] at ht
            cases ht))
        · exact .inl (.inr ⟨o, bt _ _ ht fun m => by
            rw [List.mem_singleton.mp m, hp] at ht
            cases ht⟩)
        · exact .inr ht
      refine q _ ⟨⟨p, dx, .ref a, vg, rfl, upd_same, ⟨a, xs, rfl, nb _ _ hx, hlen, ?_⟩, ?_⟩⟩ bt
      · intro i x r h1 h2
        obtain ⟨b, rfl, hb⟩ := hxp i x r h1 h2
        exact ⟨b, rfl, nb _ _ hb⟩
      · obtain ⟨b, rfl, hb⟩ := hg
        exact ⟨b, rfl, nb _ _ hb⟩
/-- a property's getter -/
def spGet (C : Addr) (f : Str) : Sp := fun vs H Q _ => ∃ a dx fs v, vs = [.ref a] ∧ H a = some (.ins C dx fs) ∧ fs.lookup f = some v ∧ Q v H
theorem ok_Machine_steps (T : Txt K mg) : FnOk P w K mg base CX0 1 T.a_Machine_steps T.fd_Machine_steps ["self"] (spGet T.C_Machine "_steps") := by
  refine T.F_Machine_steps.ok sc_Machine_steps (fun vs H Q E h => ?_) (fun cdv A outer s H vs Q E hr h => ?_)
  · obtain ⟨a, dx, fs, v, rfl, _⟩ := h
    rfl
  · obtain ⟨a, dx, fs, v, rfl, ha, hl, q⟩ := h
    refine ⟨_, (pss_one (ps_ret (pe_fld (pv 0) rfl))), ?_⟩
    exact ⟨.ref a, rfl, a, T.C_Machine, dx, fs, v, rfl, ha, T.c_Machine, T.n_Machine__steps, hl, q⟩
theorem ok_Machine_good (T : Txt K mg) : FnOk P w K mg base CX0 1 T.a_Machine_good T.fd_Machine_good ["self"] (spGet T.C_Machine "_good") := by
  refine T.F_Machine_good.ok sc_Machine_good (fun vs H Q E h => ?_) (fun cdv A outer s H vs Q E hr h => ?_)
  · obtain ⟨a, dx, fs, v, rfl, _⟩ := h
    rfl
  · obtain ⟨a, dx, fs, v, rfl, ha, hl, q⟩ := h
    refine ⟨_, (pss_one (ps_ret (pe_fld (pv 0) rfl))), ?_⟩
    exact ⟨.ref a, rfl, a, T.C_Machine, dx, fs, v, rfl, ha, T.c_Machine, T.n_Machine__good, hl, q⟩
/-! ### rows -/
/-- the stand in which a machine ends -/
def stepI (rows : List (List Int)) (s l : Int) : Int := ((rows.getD s.toNat []).getD l.toNat 0)
def behind (rows : List (List Int)) (s : Int) (row : List Int) : Int := row.foldl (stepI rows) s
/-- a step's item, read -/
theorem step_at {L : Nat} {rows : List (List Int)} {gs : List Int} (o : OkM L rows gs) {s l : Int} (hs : 0 ≤ s ∧ s < (rows.length : Int)) (hl : 0 ≤ l ∧ l < (L : Int)) :
    ∃ r, rows[s.toNat]? = some r ∧ r.length = L ∧ r[l.toNat]? = some (stepI rows s l) ∧ 0 ≤ stepI rows s l ∧ stepI rows s l < (rows.length : Int) := by
  have h1 : s.toNat < rows.length := by omega
  have e1 : rows[s.toNat]? = some rows[s.toNat] := List.getElem?_eq_getElem h1
  obtain ⟨hr, hz⟩ := o.row _ (List.mem_of_getElem? e1)
  have h2 : l.toNat < rows[s.toNat].length := by omega
  have e2 : (rows[s.toNat])[l.toNat]? = some (rows[s.toNat])[l.toNat] := List.getElem?_eq_getElem h2
  have e3 : stepI rows s l = (rows[s.toNat])[l.toNat] := by
    unfold stepI
    rw [getD_of e1, getD_of e2]
  rw [e3]
  exact ⟨_, e1, hr, e2, hz _ (List.mem_of_getElem? e2)⟩
theorem behind_in {L : Nat} {rows : List (List Int)} {gs : List Int} (o : OkM L rows gs) : ∀ (row : List Int) (s : Int), 0 ≤ s ∧ s < (rows.length : Int) → (∀ z ∈ row, 0 ≤ z ∧ z < (L : Int)) → 0 ≤ behind rows s row ∧ behind rows s row < (rows.length : Int)
  | [], s, hs, _ => hs
  | l :: r, s, hs, h => by
    obtain ⟨_, _, _, _, h5⟩ := step_at o hs (h l List.mem_cons_self)
    exact behind_in o r (stepI rows s l) h5 fun z hz => h z (List.mem_cons_of_mem _ hz)
theorem behind_take {rows : List (List Int)} {row : List Int} {s : Int} {i : Nat} {l : Int} (h : row[i]? = some l) : behind rows s (row.take (i + 1)) = stepI rows (behind rows s (row.take i)) l := by
  unfold behind
  rw [List.take_add_one, h, List.foldl_append]
  rfl
def spLetters (C : Addr) (K : PySem.W.Frag) : Sp := fun vs H Q _ => ∃ (v : V) (L : Nat) (rows : List (List Int)) (gs : List Int), vs = [v] ∧ MachAt C K H v rows gs ∧ OkM L rows gs ∧ Q (.int L) H
theorem ok_letters_of (T : Txt K mg) : FnOk P w K mg base CX0 3 T.a_letters_of T.fd_letters_of ["machine"] (spLetters T.C_Machine K) := by
  refine T.F_letters_of.ok sc_letters_of (fun vs H Q E h => ?_) (fun cdv A outer s H vs Q E hr h => ?_)
  · obtain ⟨v, L, rows, gs, rfl, _⟩ := h
    rfl
  · obtain ⟨v, L, rows, gs, rfl, ⟨a, dx, vs, vg, rfl, ha, ⟨b, xs, rfl, hx, hlen, hxp⟩, hg⟩, hok, q⟩ := h
    refine ⟨_, (pss_one (ps_ret (pe_callB (r := rLenU K) call_lenU (by rfl) T.z_len (by decide +kernel) (pa_cons (pe_ix (r := rIx K) ix_seq (pe_prop (pv 0) T.c_Machine T.p_Machine_steps (ok_Machine_steps T) (hr.mono (by decide)) T.b_Machine_steps .nil pass0 rfl) pe_int (fun _ _ => rfl)) pa_nil)))), ?_⟩
    refine st0 (σ' := [some _]) rfl ?_
    walk_at "go"
    refine ⟨a, dx, _, rfl, ha, a, dx, _, _, rfl, ha, mf_steps _ _, ?_⟩
    walk_at "go"
    have h0 : 0 < rows.length := hok.n1
    have e1 : rows[0]? = some rows[0] := List.getElem?_eq_getElem h0
    have e2 : xs[0]? = some (xs[0]'(by omega)) := List.getElem?_eq_getElem (by omega)
    obtain ⟨c, ec, hc⟩ := hxp 0 _ _ e2 e1
    rw [ec] at e2
    refine ix_t hx (atI_nat (j := 0) e2) ?_
    walk_at "go"
    refine len_t hc ?_
    walk_at "go"
    rw [List.length_map, (hok.row _ (List.mem_of_getElem? e1)).1]
    exact q
/-- a row of a machine, of at most 40 letters -/
structure OkR (L : Nat) (row : List Int) : Prop where
  len : row.length ≤ 40
  el : ∀ z ∈ row, 0 ≤ z ∧ z < (L : Int)
def spRow (C : Addr) (K : PySem.W.Frag) : Sp := fun vs H Q _ => ∃ (v x : V) (L : Nat) (rows : List (List Int)) (gs row : List Int), vs = [v, x] ∧ MachAt C K H v rows gs ∧ OkM L rows gs ∧ IntsT K H x row ∧ OkR L row ∧ ∀ H', Same H H' → Q .non H'
theorem ok_check_row (T : Txt K mg) : FnOk P w K mg base CX0 4 T.a_check_row T.fd_check_row ["machine", "row"] (spRow T.C_Machine K) := by
  refine T.F_check_row.ok sc_check_row (fun vs H Q E h => ?_) (fun cdv A outer s H vs Q E hr h => ?_)
  · obtain ⟨v, x, L, rows, gs, row, rfl, _⟩ := h
    rfl
  · obtain ⟨v, x, L, rows, gs, row, rfl, hM, hok, ⟨a, rfl, hx⟩, hR, q⟩ := h
    refine ⟨_, (pss_cons (ps_if (PW.pt (pw_or (pt_not (pt_val (pe_callB (r := rIsi K) call_isi (by rfl) T.z_isinstance (by decide +kernel) (pa_cons (pv 1) (pa_cons (pe_bltn (v := .ty "tuple") (by rfl) T.z_tuple (by decide +kernel) rfl) pa_nil))))) (pw_or1 (pt_cmpR op_gt (pe_callB (r := rLenU K) call_lenU (by rfl) T.z_len (by decide +kernel) (pa_cons (pv 1) pa_nil)) (pe_glob (v := .int 40) (by rfl) T.g_LONGEST_ROW ⟨_, rfl⟩) (nomark _))))) (pss_one ps_never) pss_nil)
 (pss_one (ps_for PassesOwn.never rfl (pi_enumT (by rfl) T.z_enumerate (pa_cons (pv 1) pa_nil)) (pg_tup rfl (pgs_cons (pg_name (i := 2) sc_check_row.nd rfl (Or.inl rfl)) (pgs_cons (pg_name (i := 3) sc_check_row.nd rfl (Or.inl rfl)) pgs_nil)))
 (pss_one (ps_if (pt_not (pt_val (pe_call (ok_is_below T) (hr.mono (by decide)) (by rfl) T.g_is_below T.F_is_below.kp T.b_is_below .nil pass0 (pa_cons (pv 3) (pa_cons (pe_call (ok_letters_of T) (hr.mono (by decide)) (by rfl) T.g_letters_of T.F_letters_of.kp T.b_letters_of .nil pass0 (pa_cons (pv 0) pa_nil)) pa_nil))))) (pss_one ps_never) pss_nil))))), ?_⟩
    refine st0 (σ' := [some _, some _, none, none]) rfl ?_
    walk_at "go"
    refine isi (tyx_t hx) kb_tt ?_
    walk_at "go"
    refine len_t hx ?_
    walk_at "go"
    have hl := hR.len
    refine i_dF (by
      rw [List.length_map]
      omega) ?_
    walk_at "go"
    refine f_forE ?_
    walk_at "go"
    refine ⟨a, _, rfl, hx, for_it (walk_enumT (K := K) (xs := row.map V.int)) (fun i σ H2 => ∃ y1 y2, σ = [some v, some (.ref a), y1, y2] ∧ Same H H2) ⟨none, none, rfl, Same.refl _⟩ (fun i σ H2 _ h => ?_) (fun i x σ H2 H3 hi h hy => ?_) (fun σ H2 h => ?_)⟩
    · obtain ⟨_, _, _, s⟩ := h
      exact s.t hx
    · obtain ⟨y1, y2, rfl, s⟩ := h
      obtain ⟨t, u1, u2, rfl, ht, e3, eu1, eu2⟩ := hy
      obtain ⟨s3, h3⟩ := new_same ht e3
      replace eu2 : (row.map V.int)[i]? = some u2 := eu2
      rw [List.getElem?_map] at eu2
      obtain ⟨z, hz, rfl⟩ := Option.map_eq_some_iff.mp eu2
      have sx := s.trans s3
      refine g_pair (sqT h3) (σ' := [some v, some (.ref a), some u1, some (.int z)]) rfl ?_
      walk_at "go"
      refine ⟨v, L, rows, gs, rfl, hM.nl sx.nl, hok, ?_⟩
      walk_at "go"
      refine ⟨.int z, _, "int", rfl, .int z, ?_⟩
      have hb := hR.el z (List.mem_of_getElem? hz)
      rw [below_int, decide_eq_true hb.1, decide_eq_true hb.2]
      walk_at "go"
      exact ⟨_, _, rfl, sx⟩
    · obtain ⟨y1, y2, rfl, s⟩ := h
      exact q _ s
def spBehind (C : Addr) (K : PySem.W.Frag) : Sp := fun vs H Q _ => ∃ (v x : V) (L : Nat) (rows : List (List Int)) (gs row : List Int), vs = [v, x] ∧ MachAt C K H v rows gs ∧ OkM L rows gs ∧ IntsT K H x row ∧ OkR L row ∧ ∀ H', Same H H' → Q (.int (behind rows 0 row)) H'
theorem ok_stand_behind (T : Txt K mg) : FnOk P w K mg base CX0 5 T.a_stand_behind T.fd_stand_behind ["machine", "row"] (spBehind T.C_Machine K) := by
  refine T.F_stand_behind.ok sc_stand_behind (fun vs H Q E h => ?_) (fun cdv A outer s H vs Q E hr h => ?_)
  · obtain ⟨v, x, L, rows, gs, row, rfl, _⟩ := h
    rfl
  · obtain ⟨v, x, L, rows, gs, row, rfl, hM, hok, hX, hR, q⟩ := h
    refine ⟨_, (pss_cons (ps_expr (pe_call (ok_check_row T) (hr.mono (by decide)) (by rfl) T.g_check_row T.F_check_row.kp T.b_check_row .nil pass0 (pa_cons (pv 0) (pa_cons (pv 1) pa_nil))))
 (pss_cons (ps_set (i := 2) sc_stand_behind.nd rfl (Or.inl rfl) pe_int)
 (pss_cons (ps_for PassesOwn.never rfl (pi_seq (pv 1)) (pg_name (i := 3) sc_stand_behind.nd rfl (Or.inl rfl))
 (pss_one (ps_set (i := 2) sc_stand_behind.nd rfl (Or.inl rfl) (pe_ix (r := rIx K) ix_seq (pe_ix (r := rIx K) ix_seq (pe_prop (pv 0) T.c_Machine T.p_Machine_steps (ok_Machine_steps T) (hr.mono (by decide)) T.b_Machine_steps .nil pass0 rfl) (pv 2) (fun _ _ => rfl)) (pv 3) (fun _ _ => rfl)))))
 (pss_one (ps_ret (pv 2)))))), ?_⟩
    refine st0 (σ' := [some _, some _, none, none]) rfl ?_
    walk_at "go"
    refine ⟨v, x, L, rows, gs, row, rfl, hM, hok, hX, hR, fun H1 s1 => ?_⟩
    obtain ⟨a, rfl, hx⟩ := hX
    obtain ⟨b, dx, vs, vg, rfl, hb, ⟨c, xs, rfl, hc, hlen, hxp⟩, hg⟩ := hM.ex
    walk_at "go"
    refine f_forT ?_
    walk_at "go"
    refine ⟨a, rfl, ⟨_, s1.t hx⟩, for_tup (K := K) (a := a) (xs := row.map V.int) (fun i σ H2 => ∃ y, σ = [some (.ref b), some (.ref a), some (.int (behind rows 0 (row.take i))), y] ∧ Same H H2) ⟨none, rfl, s1⟩ (fun i σ H2 _ h => ?_) (fun i x σ H2 hi h => ?_) (fun σ H2 h => ?_)⟩
    · obtain ⟨_, _, s⟩ := h
      exact s.t hx
    · obtain ⟨y, rfl, s⟩ := h
      rw [List.getElem?_map] at hi
      obtain ⟨z, hz, rfl⟩ := Option.map_eq_some_iff.mp hi
      have hzb := hR.el z (List.mem_of_getElem? hz)
      have hin := behind_in hok (row.take i) 0 ⟨by omega, by have := hok.n1; omega⟩ fun z hz => hR.el z (List.mem_of_mem_take hz)
      obtain ⟨r, e1, hrl, e2, _⟩ := step_at hok hin hzb
      have e3 : xs[(behind rows 0 (row.take i)).toNat]? = some (xs[(behind rows 0 (row.take i)).toNat]'(by omega)) := List.getElem?_eq_getElem (by omega)
      obtain ⟨d, ed, hd⟩ := hxp _ _ _ e3 e1
      rw [ed] at e3
      walk_at "go"
      refine ⟨b, dx, _, rfl, s _ _ hb, b, dx, _, _, rfl, s _ _ hb, mf_steps _ _, ?_⟩
      walk_at "go"
      refine ix_t (s.t hc) (at_int hin.1 e3) ?_
      walk_at "go"
      refine ix_t (s.t hd) (at_int (v := .int (stepI rows (behind rows 0 (row.take i)) z)) hzb.1 ?_) ?_
      · rw [List.getElem?_map, e2]
        rfl
      · walk_at "go"
        rw [← behind_take hz]
        exact ⟨_, rfl, s⟩
    · obtain ⟨y, rfl, s⟩ := h
      rw [List.length_map, List.take_length]
      walk_at "go"
      exact q _ s
theorem inV_int (z : Int) (gs : List Int) : inV (.int z) (gs.map V.int) = decide (z ∈ gs) := by
  unfold inV
  rw [List.any_map, Bool.eq_iff_iff, List.any_eq_true, decide_eq_true_iff]
  constructor
  · rintro ⟨x, hx, e⟩
    have e' : (x == z) = true := e
    rw [← eq_of_beq e']
    exact hx
  · intro h
    exact ⟨z, h, (show (z == z) = true from beq_self_eq_true z)⟩
theorem flat_ints (gs : List Int) : (gs.map V.int).all flatV = true := by
  rw [List.all_map, List.all_eq_true]
  intro x _
  rfl
def spLets (C : Addr) (K : PySem.W.Frag) : Sp := fun vs H Q _ => ∃ (v x : V) (L : Nat) (rows : List (List Int)) (gs row : List Int), vs = [v, x] ∧ MachAt C K H v rows gs ∧ OkM L rows gs ∧ IntsT K H x row ∧ OkR L row ∧ ∀ H', Same H H' → Q (.bl (decide (behind rows 0 row ∈ gs))) H'
theorem ok_lets (T : Txt K mg) : FnOk P w K mg base CX0 6 T.a_lets T.fd_lets ["machine", "row"] (spLets T.C_Machine K) := by
  refine T.F_lets.ok sc_lets (fun vs H Q E h => ?_) (fun cdv A outer s H vs Q E hr h => ?_)
  · obtain ⟨v, x, L, rows, gs, row, rfl, _⟩ := h
    rfl
  · obtain ⟨v, x, L, rows, gs, row, rfl, hM, hok, hX, hR, q⟩ := h
    refine ⟨_, (pss_one (ps_ret (pe_cmpR (r := rIn K false) op_in_seq (pe_call (ok_stand_behind T) (hr.mono (by decide)) (by rfl) T.g_stand_behind T.F_stand_behind.kp T.b_stand_behind .nil pass0 (pa_cons (pv 0) (pa_cons (pv 1) pa_nil))) (pe_prop (pv 0) T.c_Machine T.p_Machine_good (ok_Machine_good T) (hr.mono (by decide)) T.b_Machine_good .nil pass0 rfl) (by rfl)))), ?_⟩
    refine st0 (σ' := [some _, some _]) rfl ?_
    walk_at "go"
    refine ⟨v, x, L, rows, gs, row, rfl, hM, hok, hX, hR, fun H1 s1 => ?_⟩
    obtain ⟨b, dx, vs, vg, rfl, hb, hrr, ⟨c, rfl, hc⟩⟩ := hM.ex
    walk_at "go"
    refine ⟨b, dx, _, rfl, s1 _ _ hb, b, dx, _, _, rfl, s1 _ _ hb, mf_good _ _, ?_⟩
    refine ⟨c, _, rfl, .inr (s1.t hc), rfl, flat_ints gs, ?_⟩
    rw [inV_int]
    exact q _ s1
/-! ### draws: a number state, the cells, an index -/
structure Dr (H : Hp) (h pc : Addr) : Prop where
  ex : ∃ (st ix : Int) (cs : List Int), H h = some (.lst [.int st, .ref pc, .int ix]) ∧ H pc = some (.lst (cs.map V.int)) ∧ 0 ≤ st ∧ st < 2147483647 ∧ 0 ≤ ix ∧ cs.length ≤ 63
theorem Dr.ne {H : Hp} {h pc : Addr} (d : Dr H h pc) : h ≠ pc := by
  obtain ⟨st, ix, cs, h1, h2, _⟩ := d.ex
  intro e
  rw [e] at h1
  rw [h1] at h2
  have e2 : [V.int st, .ref pc, .int ix] = cs.map V.int := HO.lst.inj (Option.some.inj h2)
  have e3 : V.ref pc ∈ cs.map V.int := by
    rw [← e2]
    exact List.mem_cons_of_mem _ List.mem_cons_self
  obtain ⟨z, _, e4⟩ := List.mem_map.mp e3
  cases e4
theorem Dr.same {H H' : Hp} {h pc : Addr} (d : Dr H h pc) (s : Same H H') : Dr H' h pc := by
  obtain ⟨st, ix, cs, h1, h2, r⟩ := d.ex
  exact ⟨st, ix, cs, s _ _ h1, s _ _ h2, r⟩
/-- a step of draws: only their own two lists have changed -/
structure DrS (h pc : Addr) (H H' : Hp) : Prop where
  bt : But [h, pc] H H'
  dr : Dr H' h pc
theorem two_mem {h pc b : Addr} (h1 : b ≠ h) (h2 : b ≠ pc) : b ∉ [h, pc] := by
  intro m
  rcases List.mem_cons.mp m with e | e
  · exact h1 e
  · exact h2 (List.mem_singleton.mp e)
theorem Dr.not {H : Hp} {h pc b : Addr} (d : Dr H h pc) (hb : H b = none) : b ∉ [h, pc] := by
  obtain ⟨st, ix, cs, h1, h2, r⟩ := d.ex
  refine two_mem (fun e => ?_) (fun e => ?_)
  · rw [e, h1] at hb
    cases hb
  · rw [e, h2] at hb
    cases hb
theorem DrS.refl {H : Hp} {h pc : Addr} (d : Dr H h pc) : DrS h pc H H := ⟨fun _ _ e _ => e, d⟩
theorem DrS.trans {H H1 H2 : Hp} {h pc : Addr} (a : DrS h pc H H1) (b : DrS h pc H1 H2) : DrS h pc H H2 := ⟨a.bt.trans b.bt, b.dr⟩
theorem DrS.of {H H1 : Hp} {h pc : Addr} (d : Dr H h pc) (s : Same H H1) : DrS h pc H H1 := ⟨s.but, d.same s⟩
theorem Dr.nl {H H' : Hp} {h pc : Addr} (d : Dr H h pc) (b : But [h, pc] H H') : NL H H' := by
  obtain ⟨st, ix, cs, h1, h2, r⟩ := d.ex
  refine b.nl fun c m => ?_
  rcases List.mem_cons.mp m with e | e
  · rw [e]
    exact ⟨_, h1⟩
  · rw [List.mem_singleton.mp e]
    exact ⟨_, h2⟩
theorem DrS.get {H H' : Hp} {h pc b : Addr} {o : HO} (s : DrS h pc H H') (hb : H b = some o) (n : b ∉ [h, pc]) : H' b = some o := s.bt b o hb n
def spMix (K : PySem.W.Frag) : Sp := fun vs H Q _ => ∃ (a : Addr) (ns : List Int) (seed : Int), vs = [.ref a, .int seed] ∧ SqL K H a (ns.map V.int) ∧ ns.length ≤ 63 ∧ 0 ≤ seed ∧ seed < 2147483647 ∧
  ∀ h pc H', Same H H' → H h = none → H pc = none → Dr H' h pc → Q (.ref h) H'
theorem ok__law_mix (T : Txt K mg) : FnOk P w K mg base CX0 1 T.a__law_mix T.fd__law_mix ["_law_script", "_law_seed"] (spMix K) := by
  refine T.F__law_mix.ok sc__law_mix (fun vs H Q E h => ?_) (fun cdv A outer s H vs Q E hr h => ?_)
  · obtain ⟨a, ns, seed, rfl, _⟩ := h
    rfl
  · obtain ⟨a, ns, seed, rfl, hS, hl, s0, s1, q⟩ := h
    refine ⟨_, (pss_cons (ps_set (i := 2) sc__law_mix.nd rfl (Or.inl rfl) (pv 1))
 (pss_cons (ps_for PassesOwn.never rfl (pi_seq (pv 0)) (pg_name (i := 3) sc__law_mix.nd rfl (Or.inl rfl))
 (pss_one (ps_set (i := 2) sc__law_mix.nd rfl (Or.inl rfl) (pe_op op_modN (pe_callTy call_intU (by rfl) T.z_int (by decide +kernel) (pa_cons (pe_op (r := rAddU K) op_addU (pe_op (r := rAddU K) op_addU (pe_op op_mulU (pv 2) pe_int) (pe_op op_modN (pe_callTy call_intU (by rfl) T.z_int (by decide +kernel) (pa_cons (pv 3) pa_nil)) pe_int)) pe_int) pa_nil)) pe_int))))
 (pss_one (ps_ret (pe_lst (pa_cons (pv 2) (pa_cons (pe_callTy (r := rListU K) call_listU (by rfl) T.z_list (by decide +kernel) (pa_cons (pv 0) pa_nil)) (pa_cons pe_int pa_nil)))))))), ?_⟩
    refine st0 (σ' := [some _, some _, none, none]) rfl ?_
    walk_at "go"
    refine f_forL ?_
    walk_at "go"
    refine ⟨a, rfl, ⟨_, hS⟩, for_list (K := K) (a := a) (xs := ns.map V.int) (fun i σ H2 => ∃ z y, σ = [some (.ref a), some (.int seed), some (.int z), y] ∧ H2 = H ∧ 0 ≤ z ∧ z < 2147483647) ⟨seed, none, rfl, rfl, s0, s1⟩ (fun i σ H2 _ h => ?_) (fun i x σ H2 hi h => ?_) (fun σ H2 h => ?_)⟩
    · obtain ⟨_, _, _, e, _⟩ := h
      rw [e]
      exact hS
    · obtain ⟨z, y, rfl, rfl, z0, z1⟩ := h
      rw [List.getElem?_map] at hi
      obtain ⟨c, hc, rfl⟩ := Option.map_eq_some_iff.mp hi
      walk_at "go"
      refine mul_i (cmul_l z0 (by omega)) ?_
      walk_at "go"
      refine mod_c (by decide) ?_
      walk_at "go"
      refine mod_c (by decide) ?_
      walk_at "go"
      exact ⟨_, _, rfl, rfl, Int.fmod_nonneg_of_pos _ (by decide), Int.fmod_lt_of_pos _ (by decide)⟩
    · obtain ⟨z, y, rfl, rfl, z0, z1⟩ := h
      walk_at "go"
      refine list_s (.inl hS) fun pc H1 n1 e1 h1 _ => ?_
      walk_at "go"
      refine al_l (sz1000 (by show 3 ≤ 1000; decide)) fun h H3 n3 e3 h3 _ => ?_
      walk_at "go"
      exact q h pc H3 (e1.trans e3) (e1.free n3) n1 ⟨z, 0, ns, h3, e3 _ _ h1, z0, z1, by decide, hl⟩
def spNext : Sp := fun vs H Q _ => ∃ (h pc : Addr) (cap : Int), vs = [.ref h, .int cap] ∧ Dr H h pc ∧ 0 < cap ∧ cap < 1073741824 ∧ ∀ r H', 0 ≤ r → r < cap → DrS h pc H H' → Q (.int r) H'
theorem ok__law_next (T : Txt K mg) : FnOk P w K mg base CX0 1 T.a__law_next T.fd__law_next ["_law_h", "_law_cap"] spNext := by
  refine T.F__law_next.ok sc__law_next (fun vs H Q E h => ?_) (fun cdv A outer s H vs Q E hr h => ?_)
  · obtain ⟨h, pc, cap, rfl, _⟩ := h
    rfl
  · obtain ⟨h, pc, cap, rfl, D, c0, c1, q⟩ := h
    obtain ⟨st, ix, cs, hh, hc, s0, s1, i0, hl⟩ := id D
    have hne := D.ne
    refine ⟨_, (pss_cons (ps_set (i := 2) sc__law_next.nd rfl (Or.inl rfl) (pe_ix (r := rIx K) ix_seq (pe_op (r := rAddU K) op_addU (pe_ix (r := rIx K) ix_seq (pv 0) pe_int (fun _ _ => rfl)) (pe_lst (pa_cons pe_int pa_nil))) (pe_op op_modN (pe_callTy call_intU (by rfl) T.z_int (by decide +kernel) (pa_cons (pe_ix (r := rIx K) ix_seq (pv 0) pe_int (fun _ _ => rfl)) pa_nil)) (pe_callB (call_maxU rfl) (by rfl) T.z_max (by decide +kernel) (pa_cons pe_int (pa_cons (pe_callB (r := rLenU K) call_lenU (by rfl) T.z_len (by decide +kernel) (pa_cons (pe_ix (r := rIx K) ix_seq (pv 0) pe_int (fun _ _ => rfl)) pa_nil)) pa_nil)))) (fun _ _ => rfl)))
 (pss_cons (ps_if (pt_cmpR op_ge (pv 2) (pe_op op_pow pe_int pe_int) (nomark _)) (pss_cons (ps_asg (pe_op op_fdivN (pv 2) (pv 1)) (pg_sub (pe_ix (r := rIx K) ix_seq (pv 0) pe_int (fun _ _ => rfl)) (pe_op op_modN (pe_callTy call_intU (by rfl) T.z_int (by decide +kernel) (pa_cons (pe_ix (r := rIx K) ix_seq (pv 0) pe_int (fun _ _ => rfl)) pa_nil)) (pe_callB (r := rLenU K) call_lenU (by rfl) T.z_len (by decide +kernel) (pa_cons (pe_ix (r := rIx K) ix_seq (pv 0) pe_int (fun _ _ => rfl)) pa_nil))) set_list))
 (pss_one (ps_ret (pe_op op_modN (pe_callTy call_intU (by rfl) T.z_int (by decide +kernel) (pa_cons (pv 2) pa_nil)) (pv 1))))) pss_nil)
 (pss_cons (ps_asg (pe_op op_modN (pe_callTy call_intU (by rfl) T.z_int (by decide +kernel) (pa_cons (pe_op (r := rAddU K) op_addU (pe_op (r := rAddU K) op_addU (pe_op op_mulU (pe_ix (r := rIx K) ix_seq (pv 0) pe_int (fun _ _ => rfl)) pe_int) (pe_op op_mulU (pv 2) pe_int)) pe_int) pa_nil)) pe_int) (pg_sub (pv 0) pe_int set_list))
 (pss_cons (ps_asg (pe_op (r := rAddU K) op_addU (pe_ix (r := rIx K) ix_seq (pv 0) pe_int (fun _ _ => rfl)) pe_int) (pg_sub (pv 0) pe_int set_list))
 (pss_one (ps_ret (pe_op op_modN (pe_callTy call_intU (by rfl) T.z_int (by decide +kernel) (pa_cons (pe_op op_fdivN (pe_ix (r := rIx K) ix_seq (pv 0) pe_int (fun _ _ => rfl)) pe_int) pa_nil)) (pv 1)))))))), ?_⟩
    refine st0 (σ' := [some _, some _, none]) rfl ?_
    walk_at "go"
    refine ix_l (sqL hh) (atI_nat (j := 1) rfl) ?_
    walk_at "go"
    refine al_l (sz1000 (by show 1 ≤ 1000; decide)) fun p1 H1 n1 e1 h1 _ => ?_
    walk_at "go"
    refine add_l (e1 _ _ hc) h1 (by
      rw [List.length_map]
      show cs.length + 1 ≤ 1000
      omega) fun p2 H2 n2 e2 h2 => ?_
    have e12 := e1.trans e2
    walk_at "go"
    refine ix_l (sqL (e12 _ _ hh)) (atI_nat (j := 2) rfl) ?_
    walk_at "go"
    refine ix_l (sqL (e12 _ _ hh)) (atI_nat (j := 1) rfl) ?_
    walk_at "go"
    refine len_l (sqL (e12 _ _ hc)) ?_
    walk_at "go"
    rw [List.length_map]
    generalize hm : (if (cs.length : Int) > 1 then (cs.length : Int) else 1) = m
    have hm1 : 0 < m := by
      rw [← hm]
      split <;> omega
    have hm2 : m = 1 ∨ m = (cs.length : Int) := by
      rw [← hm]
      split
      · exact .inr rfl
      · exact .inl rfl
    refine mod_c (by omega) ?_
    have k0 := Int.fmod_nonneg_of_pos ix hm1
    have k1 := Int.fmod_lt_of_pos ix hm1
    obtain ⟨cell, hcell, hbig⟩ : ∃ cell, (cs.map V.int ++ [V.int 0])[(ix.fmod m).toNat]? = some (.int cell) ∧ (0 < cell → (ix.fmod m).toNat < cs.length) := by
      by_cases hk : (ix.fmod m).toNat < cs.length
      · refine ⟨cs[(ix.fmod m).toNat], ?_, fun _ => hk⟩
        rw [List.getElem?_append_left (by rw [List.length_map]; exact hk), List.getElem?_map, List.getElem?_eq_getElem hk]
        rfl
      · refine ⟨0, ?_, fun z => absurd z (by decide)⟩
        have ek : (ix.fmod m).toNat = (cs.map V.int).length := by
          rw [List.length_map]
          rcases hm2 with e | e
          · rw [e] at k1 hk ⊢
            omega
          · omega
        rw [ek, List.getElem?_concat_length]
    refine ix_l (sqL h2) (at_int k0 hcell) ?_
    walk_at "go"
    refine r_ic ⟨by decide, by decide, by decide⟩ ?_
    walk_at "go"
    refine i_d (fun hb => ?_) (fun hb => ?_)
    · -- the digits of a large cell
      have hpos : 0 < cell := by
        have : (10 : Int) ^ (18 : Int).toNat ≤ cell := hb
        have e : (10 : Int) ^ (18 : Int).toNat = 1000000000000000000 := by decide
        rw [e] at this
        omega
      have hlt := hbig hpos
      have hcl : 0 < (cs.length : Int) := by omega
      walk_at "go"
      refine fdv_c ⟨by omega, by omega⟩ ?_
      walk_at "go"
      refine ix_l (sqL (e12 _ _ hh)) (atI_nat (j := 1) rfl) ?_
      walk_at "go"
      refine ix_l (sqL (e12 _ _ hh)) (atI_nat (j := 2) rfl) ?_
      walk_at "go"
      refine ix_l (sqL (e12 _ _ hh)) (atI_nat (j := 1) rfl) ?_
      walk_at "go"
      refine len_l (sqL (e12 _ _ hc)) ?_
      walk_at "go"
      rw [List.length_map]
      refine mod_c (by omega) ?_
      refine set_l (e12 _ _ hc) (Int.fmod_nonneg_of_pos _ hcl) (by
        rw [List.length_map]
        exact Int.fmod_lt_of_pos _ hcl) ?_
      walk_at "go"
      refine mod_c (by omega) ?_
      walk_at "go"
      refine q _ _ (Int.fmod_nonneg_of_pos _ c0) (Int.fmod_lt_of_pos _ c0) ⟨fun b o hb2 nb => ?_, ⟨st, ix, cs.set (ix.fmod (cs.length : Int)).toNat (cell.fdiv cap), ?_, ?_, s0, s1, i0, by rw [List.length_set]; exact hl⟩⟩
      · rw [upd_ne (fun e => nb (by rw [e]; exact List.mem_cons_of_mem _ List.mem_cons_self))]
        exact e12 _ _ hb2
      · rw [upd_ne hne]
        exact e12 _ _ hh
      · rw [upd_same, List.map_set]
    · walk_at "go"
      refine ix_l (sqL (e12 _ _ hh)) (atI_nat (j := 0) rfl) ?_
      walk_at "go"
      refine mul_i (cmul_l s0 (by omega)) ?_
      walk_at "go"
      refine mul_i (cmul_r (by decide) (by decide)) ?_
      walk_at "go"
      refine mod_c (by decide) ?_
      walk_at "go"
      generalize hst : (st * 48271 + cell * 69621 + 11).fmod 2147483647 = st'
      have t0 : 0 ≤ st' := by
        rw [← hst]
        exact Int.fmod_nonneg_of_pos _ (by decide)
      have t1 : st' < 2147483647 := by
        rw [← hst]
        exact Int.fmod_lt_of_pos _ (by decide)
      refine set_l (e12 _ _ hh) (by decide) (by show (0 : Int) < 3; decide) ?_
      walk_at "go"
      have hh3 : (upd H2 h (.lst ([V.int st, .ref pc, .int ix].set (0 : Int).toNat (.int st')))) h = some (.lst [.int st', .ref pc, .int ix]) := upd_same
      refine ix_l (sqL hh3) (atI_nat (j := 2) rfl) ?_
      walk_at "go"
      refine set_l hh3 (by decide) (by show (2 : Int) < 3; decide) ?_
      walk_at "go"
      refine ix_l (sqL upd_same) (atI_nat (j := 0) rfl) ?_
      walk_at "go"
      refine fdv_c ⟨by decide, by decide⟩ ?_
      walk_at "go"
      refine mod_c (by omega) ?_
      walk_at "go"
      refine q _ _ (Int.fmod_nonneg_of_pos _ c0) (Int.fmod_lt_of_pos _ c0) ⟨fun b o hb2 nb => ?_, ⟨st', ix + 1, cs, upd_same, ?_, t0, t1, by omega, hl⟩⟩
      · have nh : b ≠ h := fun e => nb (by rw [e]; exact List.mem_cons_self)
        rw [upd_ne nh, upd_ne nh]
        exact e12 _ _ hb2
      · rw [upd_ne (Ne.symm hne), upd_ne (Ne.symm hne)]
        exact e12 _ _ hc
/-- one of some things, drawn -/
def spPick (K : PySem.W.Frag) : Sp := fun vs H Q _ => ∃ (h pc t : Addr) (xs : List V), vs = [.ref h, .ref t] ∧ Dr H h pc ∧ 0 < xs.length ∧ xs.length ≤ 1000 ∧ (SqT K H t xs ∨ (H t = some (.lst xs) ∧ t ∉ [h, pc])) ∧
  ∀ (i : Nat) x H', xs[i]? = some x → DrS h pc H H' → Q x H'
theorem ok__law_pick (T : Txt K mg) : FnOk P w K mg base CX0 2 T.a__law_pick T.fd__law_pick ["_law_h", "_law_things"] (spPick K) := by
  refine T.F__law_pick.ok sc__law_pick (fun vs H Q E h => ?_) (fun cdv A outer s H vs Q E hr h => ?_)
  · obtain ⟨h, pc, t, xs, rfl, _⟩ := h
    rfl
  · obtain ⟨h, pc, t, xs, rfl, D, x0, x1, ht, q⟩ := h
    refine ⟨_, (pss_one (ps_ret (pe_ix (r := rIx K) ix_seq (pv 1) (pe_call (ok__law_next T) (hr.mono (by decide)) (by rfl) T.g__law_next T.F__law_next.kp T.b__law_next .nil pass0 (pa_cons (pv 0) (pa_cons (pe_callB (r := rLenU K) call_lenU (by rfl) T.z_len (by decide +kernel) (pa_cons (pv 1) pa_nil)) pa_nil))) (fun _ _ => rfl)))), ?_⟩
    refine st0 (σ' := [some _, some _]) rfl ?_
    walk_at "go"
    have fin : ∀ (r : Int) (H' : Hp), 0 ≤ r → r < (xs.length : Int) → DrS h pc H H' → rIx K (.ref t) (.int r) H' Q := by
      intro r H' r0 r1 s
      have hx : xs[r.toNat]? = some (xs[r.toNat]'(by omega)) := List.getElem?_eq_getElem (by omega)
      rcases ht with ht | ⟨ht, n⟩
      · exact ix_t ((D.nl s.bt).t ht) (at_int r0 hx) (q _ _ _ hx s)
      · exact ix_l (sqL (s.get ht n)) (at_int r0 hx) (q _ _ _ hx s)
    rcases ht with ht | ⟨ht, n⟩
    · refine len_t ht ?_
      walk_at "go"
      exact ⟨h, pc, _, rfl, D, by omega, by omega, fun r H' r0 r1 s => fin r H' r0 r1 s⟩
    · refine len_l (sqL ht) ?_
      walk_at "go"
      exact ⟨h, pc, _, rfl, D, by omega, by omega, fun r H' r0 r1 s => fin r H' r0 r1 s⟩
/-! comprehensions over a range whose elements draw -/
theorem comp_dr {h pc : Addr} {n : Nat} {g : TG} {te : TE} {vs : List Nat} {σ σw : St} {H : Hp} {QD : Addr → Hp → Prop} (Pe : V → Prop) (hw : wipe σ vs = σw) (hn : n ≤ 1000) (D0 : Dr H h pc)
    (he : ∀ (i : Nat) (H2 : Hp) (R : VK), i < n → DrS h pc H H2 → (∀ y H4, Pe y → DrS h pc H2 H4 → R y H4) → g (.int (0 + (i : Nat))) σw H2 fun σ2 H4 => wipe σ2 vs = σw ∧ te σ2 H4 R)
    (q : ∀ D H' ys, H D = none → DrS h pc H H' → H' D = some (.lst ys) → ys.length = n → (∀ y ∈ ys, Pe y) → QD D H') :
    ∀ D, H D = none → ∃ W : Nat → Nat → Hp → Prop, (∃ m, W 0 m (upd H D (.lst []))) ∧ ∀ i m H, W i m H →
      ((Itr 0 n).stop i H ∧ QD D H) ∨ ((Itr 0 n).go i H ∧ ∃ Nx : Hp → Prop, (∀ H', Nx H' → ∃ m', m' < m ∧ W (i + 1) m' H') ∧ ∀ x H', (Itr 0 n).yld i H x H' → g x (wipe σ vs) H' fun σ2 H2 => wipe σ2 vs = wipe σ vs ∧ tYes σ2 H2 fun b H3 =>
        if b = true then te σ2 H3 fun y H4 => ∃ acc, H4 D = some (.lst acc) ∧ acc.length < sizeLine ∧ Nx (upd H4 D (.lst (acc ++ [y]))) else Nx H3) := by
  intro D hD
  have nD := D0.not hD
  refine lc_range (fun i H' => ∃ acc, DrS h pc H H' ∧ H' D = some (.lst acc) ∧ acc.length = i ∧ ∀ y ∈ acc, Pe y) ⟨[], DrS.of D0 (same_upd hD), upd_same, rfl, fun y hy => absurd hy List.not_mem_nil⟩ (fun i H2 hi h2 => ?_) fun H' h2 => ?_
  · rw [hw]
    obtain ⟨acc, s2, hd, hl, hP⟩ := h2
    refine he i H2 _ hi s2 fun y H4 hy s4 => ?_
    have hd4 := s4.get hd nD
    refine ⟨acc, hd4, small1000 (by omega), acc ++ [y], ?_, upd_same, by rw [List.length_append, hl]; rfl, fun z hz => ?_⟩
    · have s24 := s2.trans s4
      refine ⟨fun b o hb nb => ?_, ?_⟩
      · rw [upd_ne (ne_of_none hb hD)]
        exact s24.bt b o hb nb
      · obtain ⟨st, ix, cs, h1, h3, r⟩ := s24.dr.ex
        have n1 : h ≠ D := fun e => nD (by rw [e]; exact List.mem_cons_self)
        have n2 : pc ≠ D := fun e => nD (by rw [e]; exact List.mem_cons_of_mem _ List.mem_cons_self)
        exact ⟨st, ix, cs, by rw [upd_ne n1]; exact h1, by rw [upd_ne n2]; exact h3, r⟩
    · rcases List.mem_append.mp hz with m | m
      · exact hP z m
      · rw [List.mem_singleton.mp m]
        exact hy
  · obtain ⟨acc, s2, hd, hl, hP⟩ := h2
    exact q D H' acc hD s2 hd hl hP
theorem ints_of : ∀ {ys : List V} {p : Int → Prop}, (∀ y ∈ ys, ∃ z, y = V.int z ∧ p z) → ∃ ns : List Int, ys = ns.map V.int ∧ ∀ z ∈ ns, p z
  | [], _, _ => ⟨[], rfl, fun _ hz => absurd hz List.not_mem_nil⟩
  | y :: r, p, h => by
    obtain ⟨z, rfl, hz⟩ := h y List.mem_cons_self
    obtain ⟨ns, e, hn⟩ := ints_of (ys := r) (p := p) fun x hx => h x (List.mem_cons_of_mem _ hx)
    refine ⟨z :: ns, by rw [e]; rfl, fun u hu => ?_⟩
    rcases List.mem_cons.mp hu with m | m
    · rw [m]
      exact hz
    · exact hn u m
theorem DrS.upd {H H2 : Hp} {h pc D : Addr} {o : HO} (s : DrS h pc H H2) (hD : H D = none) (n : D ∉ [h, pc]) : DrS h pc H (upd H2 D o) := by
  refine ⟨fun b ob hb nb => ?_, ?_⟩
  · rw [upd_ne (ne_of_none hb hD)]
    exact s.bt b ob hb nb
  · obtain ⟨st, ix, cs, h1, h3, r⟩ := s.dr.ex
    have n1 : h ≠ D := fun e => n (by rw [e]; exact List.mem_cons_self)
    have n2 : pc ≠ D := fun e => n (by rw [e]; exact List.mem_cons_of_mem _ List.mem_cons_self)
    exact ⟨st, ix, cs, by rw [upd_ne n1]; exact h1, by rw [upd_ne n2]; exact h3, r⟩
/-- a machine's parts, drawn -/
def spParts (K : PySem.W.Frag) : Sp := fun vs H Q _ => ∃ (h pc : Addr) (L : Nat), vs = [.ref h, .int L] ∧ Dr H h pc ∧ 1 ≤ L ∧ L ≤ 3 ∧
  ∀ p v vg rows gs H', DrS h pc H H' → SqT K H' p [v, vg] → RowsT K H' v rows → IntsT K H' vg gs → OkM L rows gs → Q (.ref p) H'
theorem two_ints {a b : Int} {i : Nat} {x : V} (h : [V.int a, V.int b][i]? = some x) : x = .int a ∨ x = .int b := by
  rcases List.mem_cons.mp (List.mem_of_getElem? h) with e | e
  · exact .inl e
  · exact .inr (List.mem_singleton.mp e)
/-- between two turns of the drawn parts -/
structure PartsAt (K : PySem.W.Frag) (H : Hp) (h pc ls lg : Addr) (L : Nat) (many : Int) (i : Nat) (H2 : Hp) : Prop where
  ex : ∃ (xs : List V) (rows : List (List Int)) (gs : List Int), DrS h pc H H2 ∧ H2 ls = some (.lst xs) ∧ H2 lg = some (.lst (gs.map V.int)) ∧ xs.length = i ∧ rows.length = i ∧
    (∀ (j : Nat) (x : V) (r : List Int), xs[j]? = some x → rows[j]? = some r → IntsT K H2 x r) ∧ (∀ r ∈ rows, r.length = L ∧ ∀ z ∈ r, 0 ≤ z ∧ z < many) ∧ (∀ z ∈ gs, 0 ≤ z ∧ z < (i : Int)) ∧ gs.Pairwise (· < ·) ∧ gs.length ≤ i
theorem asc_snoc {gs : List Int} {i : Int} (h : gs.Pairwise (· < ·)) (hz : ∀ z ∈ gs, 0 ≤ z ∧ z < i) : (gs ++ [i]).Pairwise (· < ·) := by
  rw [List.pairwise_append]
  refine ⟨h, List.pairwise_singleton _ _, fun a ha b hb => ?_⟩
  rw [List.mem_singleton.mp hb]
  exact (hz a ha).2
theorem at_snoc {α : Type} {l : List α} {x y : α} {j : Nat} (h : (l ++ [x])[j]? = some y) : (j < l.length ∧ l[j]? = some y) ∨ (j = l.length ∧ y = x) := by
  by_cases hj : j < l.length
  · rw [List.getElem?_append_left hj] at h
    exact .inl ⟨hj, h⟩
  · rw [List.getElem?_append_right (by omega)] at h
    have hk : j - l.length = 0 := by
      have := (List.getElem?_eq_some_iff.mp h).1
      simp only [List.length_cons, List.length_nil] at this
      omega
    rw [hk] at h
    exact .inr ⟨by omega, (Option.some.inj h).symm⟩
theorem ok__law_parts (T : Txt K mg) : FnOk P w K mg base CX0 3 T.a__law_parts T.fd__law_parts ["_law_h", "_law_letters"] (spParts K) := by
  refine T.F__law_parts.ok sc__law_parts (fun vs H Q E h => ?_) (fun cdv A outer s H vs Q E hr h => ?_)
  · obtain ⟨h, pc, L, rfl, _⟩ := h
    rfl
  · obtain ⟨h, pc, L, rfl, D0, l1, l3, q⟩ := h
    refine ⟨_, (pss_cons (ps_asg (pe_tup (pa_cons (pe_op (r := rAddU K) op_addU pe_int (pe_call (ok__law_next T) (hr.mono (by decide)) (by rfl) T.g__law_next T.F__law_next.kp T.b__law_next .nil pass0 (pa_cons (pv 0) (pa_cons (pe_call (ok__law_pick T) (hr.mono (by decide)) (by rfl) T.g__law_pick T.F__law_pick.kp T.b__law_pick .nil pass0 (pa_cons (pv 0) (pa_cons (pe_lst (pa_cons pe_int (pa_cons pe_int pa_nil))) pa_nil))) pa_nil)))) (pa_cons (pe_call (ok__law_next T) (hr.mono (by decide)) (by rfl) T.g__law_next T.F__law_next.kp T.b__law_next .nil pass0 (pa_cons (pv 0) (pa_cons pe_int pa_nil))) pa_nil))) (pg_tup rfl (pgs_cons (pg_name (i := 2) sc__law_parts.nd rfl (Or.inr rfl)) (pgs_cons (pg_name (i := 3) sc__law_parts.nd rfl (Or.inl rfl)) pgs_nil))))
 (pss_cons (ps_par (i := 4) (j := 5) (by rfl) sc__law_parts.nd rfl rfl (by decide) rfl rfl (pa_cons (pe_lst pa_nil) (pa_cons (pe_lst pa_nil) pa_nil)) (by rfl))
 (pss_cons (ps_for PassesOwn.never rfl (pi_range1 rfl T.z_range (pa_cons (pv 2) pa_nil)) (pg_name (i := 6) sc__law_parts.nd rfl (Or.inl rfl))
 (pss_cons (ps_set (i := 7) sc__law_parts.nd rfl (Or.inr rfl) (pe_ifExp (PW.pt (pw_and (pt_cmpR op_lt (pv 6) (pv 3) (nomark _)) (pw_and1 (pt_cmpR op_lt (pe_op (r := rAddU K) op_addU (pv 6) pe_int) (pv 2) (nomark _))))) (pe_op (r := rAddU K) op_addU (pv 6) pe_int) (pe_call (ok__law_pick T) (hr.mono (by decide)) (by rfl) T.g__law_pick T.F__law_pick.kp T.b__law_pick .nil pass0 (pa_cons (pv 0) (pa_cons (pe_lst (pa_cons pe_int (pa_cons (pe_callB (call_minU rfl) (by rfl) T.z_min (by decide +kernel) (pa_cons (pv 3) (pa_cons (pe_op op_sub (pv 2) pe_int) pa_nil))) pa_nil))) pa_nil)))))
 (pss_cons (ps_expr (pe_bm PySem.F.plainAttrs_list PySem.F.slot_list_append PySem.F.type_list_append mt_append (pv 4) (pa_cons (pe_callTy (r := rTupU K) call_tupU (by rfl) T.z_tuple (by decide +kernel) (pa_cons (pe_lc (own := [("_law_letter", 8)]) (g := (gName 8)) (tt := tYes) rfl sc__law_parts.nd (pi_range1 rfl T.z_range (pa_cons (pv 1) pa_nil)) (blkOk_by (N := ["_law_h", "_law_letters", "_law_many", "_law_early", "_law_steps", "_law_good", "_law_stand", "_law_low", "_law_letter"]) (sc := defScope s__law_parts) (by decide +kernel)) (fun _ _ _ _ _ => (pg_name (i := 8) sc__law_parts.nd rfl (Or.inl rfl))) (fun _ _ _ _ _ => pts_nil) (fun _ _ _ _ _ => (pe_op (r := rAddU K) op_addU (pv 7) (pe_call (ok__law_next T) (hr.mono (by decide)) (by rfl) T.g__law_next T.F__law_next.kp T.b__law_next .nil pass0 (pa_cons (pv 0) (pa_cons (pe_op op_sub (pv 2) (pv 7)) pa_nil)))))) pa_nil)) pa_nil)))
 (pss_one (ps_if (pt_cmpR (r := rEqU K) (op_eqU hr.units) (pe_call (ok__law_next T) (hr.mono (by decide)) (by rfl) T.g__law_next T.F__law_next.kp T.b__law_next .nil pass0 (pa_cons (pv 0) (pa_cons pe_int pa_nil))) pe_int (nomark _)) (pss_one (ps_expr (pe_bm PySem.F.plainAttrs_list PySem.F.slot_list_append PySem.F.type_list_append mt_append (pv 5) (pa_cons (pv 6) pa_nil)))) pss_nil)))))
 (pss_one (ps_ret (pe_tup (pa_cons (pe_callTy (r := rTupU K) call_tupU (by rfl) T.z_tuple (by decide +kernel) (pa_cons (pv 4) pa_nil)) (pa_cons (pe_callTy (r := rTupU K) call_tupU (by rfl) T.z_tuple (by decide +kernel) (pa_cons (pv 5) pa_nil)) pa_nil)))))))), ?_⟩
    refine st0 (σ' := [some _, some _, none, none, none, none, none, none, none]) rfl ?_
    walk_at "go"
    refine al_l (sz1000 (by show 2 ≤ 1000; decide)) fun p1 H1 n1 e1 h1 _ => ?_
    walk_at "go"
    refine ⟨h, pc, p1, _, rfl, D0.same e1, by show 0 < 2; decide, by show 2 ≤ 1000; decide, .inr ⟨h1, D0.not n1⟩, fun i x H2 hx s2 => ?_⟩
    have d2 : DrS h pc H H2 := (DrS.of D0 e1).trans s2
    obtain ⟨c, rfl, c1, c8⟩ : ∃ c, x = V.int c ∧ 3 ≤ c ∧ c ≤ 8 := by
      rcases two_ints hx with e | e
      · exact ⟨3, e, by decide, by decide⟩
      · exact ⟨8, e, by decide, by decide⟩
    walk_at "go"
    refine ⟨h, pc, c, rfl, s2.dr, by omega, by omega, fun m H3 m0 m1 s3 => ?_⟩
    walk_at "go"
    refine ⟨h, pc, 5, rfl, s3.dr, by decide, by decide, fun early H4 y0 y1 s4 => ?_⟩
    walk_at "go"
    refine al_t (sz1000 (by show 2 ≤ 1000; decide)) fun p5 H5 n5 e5 h5 _ => ?_
    have d5 : DrS h pc H H5 := ((d2.trans s3).trans s4).trans (DrS.of s4.dr e5)
    generalize hm : (1 : Int) + m = many at h5 ⊢
    refine g_pair (sqT h5) (σ' := [some (.ref h), some (.int L), some (.int many), some (.int early), none, none, none, none, none]) rfl ?_
    have a1 : 1 ≤ many := by omega
    have a8 : many ≤ 8 := by omega
    clear hm hx
    walk_at "go"
    refine al_l (sz1000 (by show 0 ≤ 1000; decide)) fun ls H6 n6 e6 h6 _ => ?_
    walk_at "go"
    refine al_l (sz1000 (by show 0 ≤ 1000; decide)) fun lg H7 n7 e7 h7 _ => ?_
    have d7 : DrS h pc H H7 := d5.trans (DrS.of d5.dr (e6.trans e7))
    have back : ∀ b, H5 b = none → H b = none ∧ b ∉ [h, pc] := by
      intro b hb
      have nb := d5.dr.not hb
      cases hq : H b with
      | none => exact ⟨rfl, nb⟩
      | some o =>
        rw [d5.bt b o hq nb] at hb
        cases hb
    obtain ⟨hls, nls⟩ := back ls n6
    obtain ⟨hlg, nlg⟩ := back lg (e6.free n7)
    have nlsg : ls ≠ lg := fun e => by
      rw [e] at h6
      rw [h6] at n7
      cases n7
    walk_at "go"
    refine ⟨_, _, rfl, ?_⟩
    refine nxs (σ' := [some (.ref h), some (.int L), some (.int many), some (.int early), some (.ref ls), some (.ref lg), none, none, none]) rfl ?_
    walk_at "go"
    refine f_forR ?_
    walk_at "go"
    refine ⟨many, rfl, by omega, by omega, for_range (fun i σ H2 => ∃ y6 y7, σ = [some (.ref h), some (.int L), some (.int many), some (.int early), some (.ref ls), some (.ref lg), y6, y7, none] ∧ PartsAt K H h pc ls lg L many i H2)
      ⟨none, none, rfl, ⟨[], [], [], d7, e7 _ _ h6, h7, rfl, rfl, fun j x r hx => absurd hx (by simp), fun r hr => absurd hr List.not_mem_nil, fun z hz => absurd hz List.not_mem_nil, List.Pairwise.nil, Nat.le_refl _⟩⟩ (fun i σ H2 hi hp => ?_) (fun σ H2 hp => ?_)⟩
    · obtain ⟨y6, y7, rfl, ⟨xs, rows, gs, d, gls, glg, lx, lr, hrow, hok, hgs, hasc, hgl⟩⟩ := hp
      have hi2 : (i : Int) < many := by omega
      refine g_n6 ?_
      refine s_seq ?_
      refine s_asg ?_
      refine e_cut (fun v H3 => ∃ low, v = V.int low ∧ 0 ≤ low ∧ low < many ∧ DrS h pc H2 H3) (fun R hR => ?_) ?_
      · -- the lowest goal
        have other : ∀ σ', mkL (fun x H1 => tNil σ' H1 fun xs H2 => spPick K (V.ref h :: x :: xs) H2 R E0) [V.int 0, V.int (if many - 1 < early then many - 1 else early)] H2 := by
          intro σ'
          refine al_l (sz1000 (by show 2 ≤ 1000; decide)) fun p3 H4 n3 e3 h3 _ => ?_
          walk_at "go"
          refine ⟨h, pc, p3, _, rfl, d.dr.same e3, by show 0 < 2; decide, by show 2 ≤ 1000; decide, .inr ⟨h3, d.dr.not n3⟩, fun k x H5 hx s5 => ?_⟩
          have d5 : DrS h pc H2 H5 := (DrS.of d.dr e3).trans s5
          rcases two_ints hx with e | e
          · exact hR _ _ ⟨0, e, by decide, by omega, d5⟩
          · refine hR _ _ ⟨_, e, ?_, ?_, d5⟩
            · split <;> omega
            · split <;> omega
        walk_at "go"
        refine i_d (fun b1 => ?_) (fun b1 => ?_)
        · walk_at "go"
          refine i_d (fun b2 => ?_) (fun b2 => ?_)
          · walk_at "go"
            exact hR _ _ ⟨_, rfl, by omega, b2, DrS.refl d.dr⟩
          · walk_at "go"
            exact other _
        · walk_at "go"
          exact other _
      · rintro v H3 ⟨low, rfl, lo0, lo1, s3⟩
        have d3 := d.trans s3
        have gls3 := s3.get gls nls
        have glg3 := s3.get glg nlg
        walk_at "go"
        refine ⟨ty_l rfl gls3, ?_⟩
        walk_at "go"
        refine e_lcR ?_
        walk_at "go"
        refine ⟨L, rfl, by omega, by omega, ?_⟩
        rw [show ((L : Int)).toNat = L from Int.toNat_natCast L]
        refine comp_dr (h := h) (pc := pc) (n := L) (fun y => ∃ z, y = V.int z ∧ 0 ≤ z ∧ z < many) (σw := [some (.ref h), some (.int L), some (.int many), some (.int early), some (.ref ls), some (.ref lg), some (.int (0 + (i : Nat))), some (.int low), none]) rfl (by omega) s3.dr ?_ ?_
        · intro k H4 R hk s4 hR
          walk_at "go"
          refine ⟨rfl, ?_⟩
          walk_at "go"
          refine ⟨h, pc, _, rfl, s4.dr, by omega, by omega, fun z H5 z0 z1 s5 => ?_⟩
          walk_at "go"
          exact hR _ _ ⟨_, rfl, by omega, by omega⟩ s5
        · intro D4 H4 ys n4 s4 h4 hly hys
          obtain ⟨ns, rfl, hns⟩ := ints_of hys
          rw [List.length_map] at hly
          walk_at "go"
          refine tup_l (sqL h4) fun p5 H5 n5 e5 h5 _ => ?_
          have s5 : DrS h pc H2 H5 := (s3.trans s4).trans (DrS.of s4.dr e5)
          have gls5 := s5.get gls nls
          have glg5 := s5.get glg nlg
          walk_at "go"
          refine app_l gls5 (by omega) ?_
          walk_at "go"
          have nl5 : NL H2 H5 := d.dr.nl s5.bt
          generalize hH6 : upd H5 ls (.lst (xs ++ [V.ref p5])) = H6
          have nl6 : NL H5 H6 := by
            rw [← hH6]
            exact upd_lst_nl gls5
          have g6 : H6 ls = some (.lst (xs ++ [V.ref p5])) := by
            rw [← hH6]
            exact upd_same
          have g6g : H6 lg = some (.lst (gs.map V.int)) := by
            rw [← hH6, upd_ne (Ne.symm nlsg)]
            exact glg5
          have d6 : DrS h pc H H6 := by
            rw [← hH6]
            exact (d.trans s5).upd hls nls
          clear hH6
          refine ⟨h, pc, 2, rfl, d6.dr, by decide, by decide, fun z H7 z0 z1 s7 => ?_⟩
          have d7 := d6.trans s7
          have g7 := s7.get g6 nls
          have g7g := s7.get g6g nlg
          have nl7 : NL H2 H7 := (nl5.trans nl6).trans (d6.dr.nl s7.bt)
          have hp7 : SqT K H7 p5 (ns.map V.int) := ((nl6.trans (d6.dr.nl s7.bt)).t (sqT h5))
          have hrow' : ∀ (j : Nat) (x : V) (r : List Int), (xs ++ [V.ref p5])[j]? = some x → (rows ++ [ns])[j]? = some r → IntsT K H7 x r := by
            intro j x r hx hr
            rcases at_snoc hx with ⟨_, hx⟩ | ⟨hj, rfl⟩
            · rcases at_snoc hr with ⟨_, hr⟩ | ⟨hj, rfl⟩
              · exact (hrow j x r hx hr).nl nl7
              · omega
            · rcases at_snoc hr with ⟨_, hr⟩ | ⟨hj, rfl⟩
              · omega
              · exact ⟨p5, rfl, hp7⟩
          have hok' : ∀ r ∈ rows ++ [ns], r.length = L ∧ ∀ z ∈ r, 0 ≤ z ∧ z < many := by
            intro r hr
            rcases List.mem_append.mp hr with m | m
            · exact hok r m
            · rw [List.mem_singleton.mp m]
              exact ⟨hly, hns⟩
          walk_at "go"
          refine i_d (fun _ => ?_) (fun _ => ?_)
          · walk_at "go"
            refine ⟨ty_l rfl g7g, ?_⟩
            walk_at "go"
            refine app_l g7g (by rw [List.length_map]; omega) ?_
            walk_at "go"
            refine ⟨_, _, rfl, ⟨xs ++ [V.ref p5], rows ++ [ns], gs ++ [(0 + (i : Nat) : Int)], d7.upd hlg nlg, by rw [upd_ne nlsg]; exact g7, by rw [upd_same, List.map_append]; rfl, by rw [List.length_append, lx]; rfl, by rw [List.length_append, lr]; rfl, ?_, hok', ?_, ?_, ?_⟩⟩
            · intro j x r hx hr
              exact (hrow' j x r hx hr).nl (upd_lst_nl g7g)
            · intro z hz
              rcases List.mem_append.mp hz with m | m
              · have := hgs z m
                omega
              · have := List.mem_singleton.mp m
                omega
            · rw [Int.zero_add]
              exact asc_snoc hasc hgs
            · rw [List.length_append]
              show gs.length + 1 ≤ i + 1
              omega
          · walk_at "go"
            exact ⟨_, _, rfl, ⟨xs ++ [V.ref p5], rows ++ [ns], gs, d7, g7, g7g, by rw [List.length_append, lx]; rfl, by rw [List.length_append, lr]; rfl, hrow', hok', fun z hz => by have := hgs z hz; omega, hasc, by omega⟩⟩
    · obtain ⟨y6, y7, rfl, ⟨xs, rows, gs, d, gls, glg, lx, lr, hrow, hok, hgs, hasc, hgl⟩⟩ := hp
      walk_at "go"
      refine tup_l (sqL gls) fun p8 H8 n8 e8 h8 _ => ?_
      walk_at "go"
      refine tup_l (sqL (e8 _ _ glg)) fun p9 H9 n9 e9 h9 _ => ?_
      walk_at "go"
      refine al_t (sz1000 (by show 2 ≤ 1000; decide)) fun p10 H10 n10 e10 h10 _ => ?_
      walk_at "go"
      have e89 := (e8.trans e9).trans e10
      refine q p10 _ _ rows gs H10 (d.trans (DrS.of d.dr e89)) (sqT h10) ⟨p8, xs, rfl, sqT ((e9.trans e10) _ _ h8), by omega, fun j x r hx hr => (hrow j x r hx hr).nl e89.nl⟩ ⟨p9, rfl, sqT (e10 _ _ h9)⟩ ⟨by omega, by omega, l1, l3, ?_, ?_, hasc⟩
      · intro r hr
        have := hok r hr
        exact ⟨this.1, fun z hz => ⟨(this.2 z hz).1, by have := (this.2 z hz).2; omega⟩⟩
      · intro z hz
        have := hgs z hz
        omega
/-! ### two values of the same structure -/
inductive Sm (K : PySem.W.Frag) (H : Hp) : Nat → V → V → Prop
  | non {n : Nat} : Sm K H n .non .non
  | bl {n : Nat} (b : Bool) : Sm K H n (.bl b) (.bl b)
  | int {n : Nat} (i : Int) : Sm K H n (.int i) (.int i)
  | str {n : Nat} (z : Str) : Sm K H n (.str z) (.str z)
  | tup {n : Nat} {a b : Addr} {xs ys : List V} (ha : SqT K H a xs) (hb : SqT K H b ys) (hl : xs.length = ys.length) (hs : ys.length ≤ 1000) (h : ∀ (i : Nat) (x y : V), xs[i]? = some x → ys[i]? = some y → Sm K H n x y) : Sm K H (n + 1) (.ref a) (.ref b)
  | lst {n : Nat} {a b : Addr} {xs ys : List V} (ha : H a = some (.lst xs)) (hb : H b = some (.lst ys)) (hl : xs.length = ys.length) (hs : ys.length ≤ 1000) (h : ∀ (i : Nat) (x y : V), xs[i]? = some x → ys[i]? = some y → Sm K H n x y) : Sm K H (n + 1) (.ref a) (.ref b)
theorem Sm.same {K : PySem.W.Frag} {H H' : Hp} (s : Same H H') : ∀ {n : Nat} {x y : V}, Sm K H n x y → Sm K H' n x y := by
  intro n
  induction n with
  | zero =>
    intro x y h
    cases h with
    | non => exact .non
    | bl b => exact .bl b
    | int i => exact .int i
    | str z => exact .str z
  | succ n ih =>
    intro x y h
    cases h with
    | non => exact .non
    | bl b => exact .bl b
    | int i => exact .int i
    | str z => exact .str z
    | tup ha hb hl hs h => exact .tup (s.t ha) (s.t hb) hl hs fun i x y hx hy => ih (h i x y hx hy)
    | lst ha hb hl hs h => exact .lst (s _ _ ha) (s _ _ hb) hl hs fun i x y hx hy => ih (h i x y hx hy)
def spAlike (K : PySem.W.Frag) (n : Nat) : Sp := fun vs H Q _ => ∃ x y, vs = [x, y] ∧ Sm K H n x y ∧ ∀ H', Same H H' → Q (.bl true) H'
/-- no call of it is allowed: for the turn below the last -/
def spNo : Sp := fun _ _ _ _ => False
theorem comp_none {K : PySem.W.Frag} {n : Nat} {g : TG} {tt : TT} {te : TE} {vs : List Nat} {σ σw : St} {H : Hp} {QD : Addr → Hp → Prop} (hw : wipe σ vs = σw)
    (he : ∀ (i : Nat) (H2 : Hp) (R : L2.St → Bool → Hp → Prop), i < n → Same H H2 → (∀ σ2 H4, Same H2 H4 → R σ2 false H4) → g (.int (0 + (i : Nat))) σw H2 fun σ2 H4 => wipe σ2 vs = σw ∧ tt σ2 H4 (R σ2))
    (q : ∀ D H', H D = none → Same H H' → H' D = some (.lst []) → QD D H') :
    ∀ D, H D = none → ∃ W : Nat → Nat → Hp → Prop, (∃ m, W 0 m (upd H D (.lst []))) ∧ ∀ i m H, W i m H →
      ((Itr 0 n).stop i H ∧ QD D H) ∨ ((Itr 0 n).go i H ∧ ∃ Nx : Hp → Prop, (∀ H', Nx H' → ∃ m', m' < m ∧ W (i + 1) m' H') ∧ ∀ x H', (Itr 0 n).yld i H x H' → g x (wipe σ vs) H' fun σ2 H2 => wipe σ2 vs = wipe σ vs ∧ tt σ2 H2 fun b H3 =>
        if b = true then te σ2 H3 fun y H4 => ∃ acc, H4 D = some (.lst acc) ∧ acc.length < sizeLine ∧ Nx (upd H4 D (.lst (acc ++ [y]))) else Nx H3) := by
  intro D hD
  refine lc_range (fun i H' => Same H H' ∧ H' D = some (.lst [])) ⟨same_upd hD, upd_same⟩ (fun i H2 hi h2 => ?_) fun H' h2 => q D H' hD h2.1 h2.2
  rw [hw]
  refine he i H2 (fun σ2 b H3 => if b = true then te σ2 H3 fun y H4 => ∃ acc, H4 D = some (.lst acc) ∧ acc.length < sizeLine ∧ Same H (upd H4 D (.lst (acc ++ [y]))) ∧ upd H4 D (.lst (acc ++ [y])) D = some (.lst []) else Same H H3 ∧ H3 D = some (.lst [])) hi h2.1 fun σ2 H4 s4 => ?_
  refine iteF ?_
  exact ⟨h2.1.trans s4, s4 _ _ h2.2⟩
theorem eq_nil {K : PySem.W.Frag} {H : Hp} {a b : Addr} {Q : VK} (ha : H a = some (.lst [])) (hb : H b = some (.lst [])) (q : Q (.bl true) H) : rEqU K (.ref a) (.ref b) H Q :=
  .inr ⟨.list [], .list [], .lst (sqL ha) .nil, .lst (sqL hb) .nil, rfl, rfl, q⟩
theorem alike_step (T : Txt K mg) {k n : Nat} (sp : Sp) (IH : FnOk P w K mg base CX0 k T.a__law_alike T.fd__law_alike ["_law_found", "_law_due"] sp)
    (hsp : ∀ (m : Nat), n = m + 1 → ∀ x y H (Q : VK) E, Sm K H m x y → (∀ H', Same H H' → Q (.bl true) H') → sp [x, y] H Q E) : FnOk P w K mg base CX0 (k + 1) T.a__law_alike T.fd__law_alike ["_law_found", "_law_due"] (spAlike K n) := by
  refine T.F__law_alike.ok sc__law_alike (fun vs H Q E h => ?_) (fun cdv A outer s H vs Q E hr h => ?_)
  · obtain ⟨x, y, rfl, _⟩ := h
    rfl
  · obtain ⟨x, y, rfl, hS, q⟩ := h
    refine ⟨_, (pss_cons (ps_if (pt_val (pe_callB (r := rIsiT K) call_isiT (by rfl) T.z_isinstance (by decide +kernel) (pa_cons (pv 1) (pa_cons (pe_tup (pa_cons (pe_bltn (v := .ty "tuple") (by rfl) T.z_tuple (by decide +kernel) rfl) (pa_cons (pe_bltn (v := .ty "list") (by rfl) T.z_list (by decide +kernel) rfl) pa_nil))) pa_nil)))) (pss_cons (ps_if (PW.pt (pw_or (pt_not (pt_val (pe_callB (r := rIsiT K) call_isiT (by rfl) T.z_isinstance (by decide +kernel) (pa_cons (pv 0) (pa_cons (pe_tup (pa_cons (pe_bltn (v := .ty "tuple") (by rfl) T.z_tuple (by decide +kernel) rfl) (pa_cons (pe_bltn (v := .ty "list") (by rfl) T.z_list (by decide +kernel) rfl) pa_nil))) pa_nil))))) (pw_or1 (pt_cmpR (r := rNeU K) (op_neU hr.units) (pe_callB (r := rIsi K) call_isi (by rfl) T.z_isinstance (by decide +kernel) (pa_cons (pv 0) (pa_cons (pe_bltn (v := .ty "list") (by rfl) T.z_list (by decide +kernel) rfl) pa_nil))) (pe_callB (r := rIsi K) call_isi (by rfl) T.z_isinstance (by decide +kernel) (pa_cons (pv 1) (pa_cons (pe_bltn (v := .ty "list") (by rfl) T.z_list (by decide +kernel) rfl) pa_nil))) (nomark _))))) (pss_one (ps_ret pe_bl)) pss_nil)
 (pss_cons (ps_if (pt_cmpR (r := rNeU K) (op_neU hr.units) (pe_callB (r := rLenU K) call_lenU (by rfl) T.z_len (by decide +kernel) (pa_cons (pv 0) pa_nil)) (pe_callB (r := rLenU K) call_lenU (by rfl) T.z_len (by decide +kernel) (pa_cons (pv 1) pa_nil)) (nomark _)) (pss_one (ps_ret pe_bl)) pss_nil)
 (pss_one (ps_ret (pe_cmpR (r := rEqU K) (op_eqU hr.units) (pe_lc (own := [("_law_k", 2)]) (g := (gName 2)) rfl sc__law_alike.nd (pi_range1 rfl T.z_range (pa_cons (pe_callB (r := rLenU K) call_lenU (by rfl) T.z_len (by decide +kernel) (pa_cons (pv 1) pa_nil)) pa_nil)) (blkOk_by (N := ["_law_found", "_law_due", "_law_k"]) (sc := defScope s__law_alike) (by decide +kernel)) (fun _ _ _ _ _ => (pg_name (i := 2) sc__law_alike.nd rfl (Or.inl rfl))) (fun _ _ _ _ _ => pts_one (pt_not (pt_val (pe_call IH hr (by rfl) T.g__law_alike T.F__law_alike.kp T.b__law_alike .nil pass0 (pa_cons (pe_ix (r := rIx K) ix_seq (pv 0) (pv 2) (fun _ _ => rfl)) (pa_cons (pe_ix (r := rIx K) ix_seq (pv 1) (pv 2) (fun _ _ => rfl)) pa_nil)))))) (fun _ _ _ _ _ => (pv 2))) (pe_lst pa_nil) (nomark _)))))) pss_nil)
 (pss_cons (ps_if (PW.pt (pw_or (pt_cmpR op_isN (pv 1) pe_non (nomark _)) (pw_or1 (pt_val (pe_callB (r := rIsi K) call_isi (by rfl) T.z_isinstance (by decide +kernel) (pa_cons (pv 1) (pa_cons (pe_bltn (v := .ty "str") (by rfl) T.z_str (by decide +kernel) rfl) pa_nil))))))) (pss_one (ps_ret (pe_and (pe_cmpR (r := rEqU K) (op_eqU hr.units) (pv 0) (pv 1) (nomark _)) (pe_one (pe_cmpR (r := rEqU K) (op_eqU hr.units) (pe_callB (r := rIsi K) call_isi (by rfl) T.z_isinstance (by decide +kernel) (pa_cons (pv 0) (pa_cons (pe_bltn (v := .ty "str") (by rfl) T.z_str (by decide +kernel) rfl) pa_nil))) (pe_callB (r := rIsi K) call_isi (by rfl) T.z_isinstance (by decide +kernel) (pa_cons (pv 1) (pa_cons (pe_bltn (v := .ty "str") (by rfl) T.z_str (by decide +kernel) rfl) pa_nil))) (nomark _)))))) pss_nil)
 (pss_one (ps_ret (pe_and (pe_callB (r := rIsi K) call_isi (by rfl) T.z_isinstance (by decide +kernel) (pa_cons (pv 0) (pa_cons (pe_bltn (v := .ty "int") (by rfl) T.z_int (by decide +kernel) rfl) pa_nil))) (pe_and (pe_cmpR (r := rEqU K) (op_eqU hr.units) (pe_callB (r := rIsi K) call_isi (by rfl) T.z_isinstance (by decide +kernel) (pa_cons (pv 0) (pa_cons (pe_bltn (v := .ty "bool") (by rfl) T.z_bool (by decide +kernel) rfl) pa_nil))) (pe_callB (r := rIsi K) call_isi (by rfl) T.z_isinstance (by decide +kernel) (pa_cons (pv 1) (pa_cons (pe_bltn (v := .ty "bool") (by rfl) T.z_bool (by decide +kernel) rfl) pa_nil))) (nomark _)) (pe_one (pe_cmpR (r := rEqU K) (op_eqU hr.units) (pv 0) (pv 1) (nomark _))))))))), ?_⟩
    refine st0 (σ' := [some _, some _, none]) rfl ?_
    cases hS with
    | non =>
      walk_at "go"
      refine al_t (sz1000 (by show 2 ≤ 1000; decide)) fun p1 H1 n1 e1 h1 _ => ?_
      walk_at "go"
      refine isi2 h1 Kd.non.ty kb_nt kb_nl ?_
      walk_at "go"
      refine i_f ?_
      walk_at "go"
      refine ⟨rfl, ?_⟩
      walk_at "go"
      refine i_dT rfl ?_
      walk_at "go"
      refine eq_s rfl ?_
      rw [decide_eq_true rfl]
      walk_at "go"
      refine isi Kd.non.ty kb_ns ?_
      walk_at "go"
      refine isi Kd.non.ty kb_ns ?_
      walk_at "go"
      exact q _ e1
    | bl b =>
      walk_at "go"
      refine al_t (sz1000 (by show 2 ≤ 1000; decide)) fun p1 H1 n1 e1 h1 _ => ?_
      walk_at "go"
      refine isi2 h1 (Kd.ty (.bl b)) kb_bt kb_bl ?_
      walk_at "go"
      refine i_f ?_
      walk_at "go"
      refine ⟨rfl, ?_⟩
      walk_at "go"
      refine i_dF (by intro z; cases z) ?_
      walk_at "go"
      refine isi (Kd.ty (.bl b)) kb_bs ?_
      walk_at "go"
      refine isi (Kd.ty (.bl b)) kb_bi ?_
      walk_at "go"
      refine isi (Kd.ty (.bl b)) kb_bb ?_
      walk_at "go"
      refine isi (Kd.ty (.bl b)) kb_bb ?_
      walk_at "go"
      rw [beq_self_eq_true]
      exact q _ e1
    | int i =>
      walk_at "go"
      refine al_t (sz1000 (by show 2 ≤ 1000; decide)) fun p1 H1 n1 e1 h1 _ => ?_
      walk_at "go"
      refine isi2 h1 (Kd.ty (.int i)) kb_it kb_il ?_
      walk_at "go"
      refine i_f ?_
      walk_at "go"
      refine ⟨rfl, ?_⟩
      walk_at "go"
      refine i_dF (by intro z; cases z) ?_
      walk_at "go"
      refine isi (Kd.ty (.int i)) kb_is ?_
      walk_at "go"
      refine isi (Kd.ty (.int i)) kb_ii ?_
      walk_at "go"
      refine isi (Kd.ty (.int i)) kb_ib ?_
      walk_at "go"
      refine isi (Kd.ty (.int i)) kb_ib ?_
      walk_at "go"
      rw [decide_eq_true rfl]
      exact q _ e1
    | str z =>
      walk_at "go"
      refine al_t (sz1000 (by show 2 ≤ 1000; decide)) fun p1 H1 n1 e1 h1 _ => ?_
      walk_at "go"
      refine isi2 h1 (Kd.ty (.str z)) kb_st kb_sl ?_
      walk_at "go"
      refine i_f ?_
      walk_at "go"
      refine ⟨rfl, ?_⟩
      walk_at "go"
      refine i_dF (by intro z; cases z) ?_
      walk_at "go"
      refine isi (Kd.ty (.str z)) kb_ss ?_
      walk_at "go"
      refine eq_s rfl ?_
      rw [decide_eq_true rfl]
      walk_at "go"
      refine isi (Kd.ty (.str z)) kb_ss ?_
      walk_at "go"
      refine isi (Kd.ty (.str z)) kb_ss ?_
      walk_at "go"
      exact q _ e1
    | @tup m a b xs ys ha hb hl hs hh =>
      walk_at "go"
      refine al_t (sz1000 (by show 2 ≤ 1000; decide)) fun p1 H1 n1 e1 h1 _ => ?_
      walk_at "go"
      refine isi2 h1 (Kd.ty (.tup (e1.t hb))) kb_tt kb_tl ?_
      walk_at "go"
      refine i_t ?_
      walk_at "go"
      refine al_t (sz1000 (by show 2 ≤ 1000; decide)) fun p2 H2 n2 e2 h2 _ => ?_
      have e12 := e1.trans e2
      walk_at "go"
      refine isi2 h2 (Kd.ty (.tup (e12.t ha))) kb_tt kb_tl ?_
      walk_at "go"
      refine i_nt ?_
      walk_at "go"
      refine isi (Kd.ty (.tup (e12.t ha))) kb_tl ?_
      walk_at "go"
      refine isi (Kd.ty (.tup (e12.t hb))) kb_tl ?_
      walk_at "go"
      refine len_t (e12.t ha) ?_
      walk_at "go"
      refine len_t (e12.t hb) ?_
      walk_at "go"
      refine i_nd (fun z => absurd (by rw [hl]) z) (fun _ => ?_)
      walk_at "go"
      refine e_lcR ?_
      walk_at "go"
      refine len_t (e12.t hb) ?_
      walk_at "go"
      refine ⟨_, rfl, by omega, by omega, ?_⟩
      rw [Int.toNat_natCast]
      refine comp_none (K := K) (σw := [some (.ref a), some (.ref b), none]) rfl ?_ ?_
      · intro i H3 R hi s3 hR
        have hx : xs[i]? = some (xs[i]'(by omega)) := List.getElem?_eq_getElem (by omega)
        have hy : ys[i]? = some (ys[i]'(by omega)) := List.getElem?_eq_getElem (by omega)
        have e13 := e12.trans s3
        walk_at "go"
        refine ⟨rfl, ?_⟩
        walk_at "go"
        refine ix_t (e13.t ha) (at_int (by omega) (by rw [show (0 + (i : Int)).toNat = i by omega]; exact hx)) ?_
        walk_at "go"
        refine ix_t (e13.t hb) (at_int (by omega) (by rw [show (0 + (i : Int)).toNat = i by omega]; exact hy)) ?_
        walk_at "go"
        refine hsp m rfl _ _ _ _ _ ((hh i _ _ hx hy).same e13) fun H4 s4 => ?_
        walk_at "go"
        exact hR _ _ s4
      · intro D H3 hD s3 hd
        walk_at "go"
        refine al_l (sz1000 (by show 0 ≤ 1000; decide)) fun p4 H4 n4 e4 h4 _ => ?_
        refine eq_nil (e4 _ _ hd) h4 ?_
        exact q _ ((e12.trans s3).trans e4)
    | @lst m a b xs ys ha hb hl hs hh =>
      walk_at "go"
      refine al_t (sz1000 (by show 2 ≤ 1000; decide)) fun p1 H1 n1 e1 h1 _ => ?_
      walk_at "go"
      refine isi2 h1 (Kd.ty (.lst (e1 _ _ hb))) kb_lt kb_ll ?_
      walk_at "go"
      refine i_t ?_
      walk_at "go"
      refine al_t (sz1000 (by show 2 ≤ 1000; decide)) fun p2 H2 n2 e2 h2 _ => ?_
      have e12 := e1.trans e2
      walk_at "go"
      refine isi2 h2 (Kd.ty (.lst (e12 _ _ ha))) kb_lt kb_ll ?_
      walk_at "go"
      refine i_nt ?_
      walk_at "go"
      refine isi (Kd.ty (.lst (e12 _ _ ha))) kb_ll ?_
      walk_at "go"
      refine isi (Kd.ty (.lst (e12 _ _ hb))) kb_ll ?_
      walk_at "go"
      refine len_l (sqL (e12 _ _ ha)) ?_
      walk_at "go"
      refine len_l (sqL (e12 _ _ hb)) ?_
      walk_at "go"
      refine i_nd (fun z => absurd (by rw [hl]) z) (fun _ => ?_)
      walk_at "go"
      refine e_lcR ?_
      walk_at "go"
      refine len_l (sqL (e12 _ _ hb)) ?_
      walk_at "go"
      refine ⟨_, rfl, by omega, by omega, ?_⟩
      rw [Int.toNat_natCast]
      refine comp_none (K := K) (σw := [some (.ref a), some (.ref b), none]) rfl ?_ ?_
      · intro i H3 R hi s3 hR
        have hx : xs[i]? = some (xs[i]'(by omega)) := List.getElem?_eq_getElem (by omega)
        have hy : ys[i]? = some (ys[i]'(by omega)) := List.getElem?_eq_getElem (by omega)
        have e13 := e12.trans s3
        walk_at "go"
        refine ⟨rfl, ?_⟩
        walk_at "go"
        refine ix_l (sqL (e13 _ _ ha)) (at_int (by omega) (by rw [show (0 + (i : Int)).toNat = i by omega]; exact hx)) ?_
        walk_at "go"
        refine ix_l (sqL (e13 _ _ hb)) (at_int (by omega) (by rw [show (0 + (i : Int)).toNat = i by omega]; exact hy)) ?_
        walk_at "go"
        refine hsp m rfl _ _ _ _ _ ((hh i _ _ hx hy).same e13) fun H4 s4 => ?_
        walk_at "go"
        exact hR _ _ s4
      · intro D H3 hD s3 hd
        walk_at "go"
        refine al_l (sz1000 (by show 0 ≤ 1000; decide)) fun p4 H4 n4 e4 h4 _ => ?_
        refine eq_nil (e4 _ _ hd) h4 ?_
        exact q _ ((e12.trans s3).trans e4)
theorem ok_alike_n (T : Txt K mg) : ∀ n : Nat, FnOk P w K mg base CX0 (n + 2) T.a__law_alike T.fd__law_alike ["_law_found", "_law_due"] (spAlike K n)
  | 0 => by
    have IH : FnOk P w K mg base CX0 1 T.a__law_alike T.fd__law_alike ["_law_found", "_law_due"] spNo :=
      T.F__law_alike.ok sc__law_alike (fun vs H Q E h => False.elim h) (fun cdv A outer s H vs Q E hr h => False.elim h)
    exact alike_step T spNo IH fun m e => nomatch e
  | n + 1 => by
    refine alike_step T (spAlike K n) (ok_alike_n T n) fun m e x y H Q E h q => ?_
    obtain rfl : n = m := Nat.succ.inj e
    exact ⟨x, y, rfl, h, q⟩
theorem ok__law_alike (T : Txt K mg) : FnOk P w K mg base CX0 4 T.a__law_alike T.fd__law_alike ["_law_found", "_law_due"] (spAlike K 2) := ok_alike_n T 2
/-! ### the law: four drawn machines with rows -/
/-- the drawn parts as a tuple of two -/
def spEnd (K : PySem.W.Frag) : Sp := fun vs H Q _ => ∃ (p x : Addr) (v vg : V) (s : Int) (L : Nat) (rows : List (List Int)) (gs row : List Int), vs = [.ref p, .int s, .ref x] ∧ SqT K H p [v, vg] ∧ RowsT K H v rows ∧ OkM L rows gs ∧ 0 ≤ s ∧ s < (rows.length : Int) ∧
  SqT K H x (row.map V.int) ∧ OkR L row ∧ Q (.int (behind rows s row)) H
theorem ok__law_end (T : Txt K mg) : FnOk P w K mg base CX0 1 T.a__law_end T.fd__law_end ["_law_parts_here", "_law_stand", "_law_row"] (spEnd K) := by
  refine T.F__law_end.ok sc__law_end (fun vs H Q E h => ?_) (fun cdv A outer s H vs Q E hr h => ?_)
  · obtain ⟨p, x, v, vg, s, L, rows, gs, row, rfl, _⟩ := h
    rfl
  · obtain ⟨p, x, v, vg, st, L, rows, gs, row, rfl, hp, ⟨c, xs, rfl, hc, hlen, hxp⟩, hok, s0, s1, hx, hR, q⟩ := h
    refine ⟨_, (pss_cons (ps_for PassesOwn.never rfl (pi_seq (pv 2)) (pg_name (i := 3) sc__law_end.nd rfl (Or.inl rfl))
 (pss_one (ps_set (i := 1) sc__law_end.nd rfl (Or.inl rfl) (pe_ix (r := rIx K) ix_seq (pe_ix (r := rIx K) ix_seq (pe_ix (r := rIx K) ix_seq (pv 0) pe_int (fun _ _ => rfl)) (pv 1) (fun _ _ => rfl)) (pv 3) (fun _ _ => rfl)))))
 (pss_one (ps_ret (pv 1)))), ?_⟩
    refine st0 (σ' := [some _, some _, some _, none]) rfl ?_
    walk_at "go"
    refine f_forT ?_
    walk_at "go"
    refine ⟨x, rfl, ⟨_, hx⟩, for_tup (K := K) (a := x) (xs := row.map V.int) (fun i σ H2 => ∃ y, σ = [some (.ref p), some (.int (behind rows st (row.take i))), some (.ref x), y] ∧ H2 = H) ⟨none, rfl, rfl⟩ (fun i σ H2 _ h => ?_) (fun i x σ H2 hi h => ?_) (fun σ H2 h => ?_)⟩
    · obtain ⟨_, _, rfl⟩ := h
      exact hx
    · obtain ⟨y, rfl, rfl⟩ := h
      rw [List.getElem?_map] at hi
      obtain ⟨z, hz, rfl⟩ := Option.map_eq_some_iff.mp hi
      have hzb := hR.el z (List.mem_of_getElem? hz)
      have hin := behind_in hok (row.take i) st ⟨s0, s1⟩ fun z hz => hR.el z (List.mem_of_mem_take hz)
      obtain ⟨r, e1, hrl, e2, _⟩ := step_at hok hin hzb
      have e3 : xs[(behind rows st (row.take i)).toNat]? = some (xs[(behind rows st (row.take i)).toNat]'(by omega)) := List.getElem?_eq_getElem (by omega)
      obtain ⟨d, ed, hd⟩ := hxp _ _ _ e3 e1
      rw [ed] at e3
      walk_at "go"
      refine ix_t hp (atI_nat (j := 0) rfl) ?_
      walk_at "go"
      refine ix_t hc (at_int hin.1 e3) ?_
      walk_at "go"
      refine ix_t hd (at_int (v := .int (stepI rows (behind rows st (row.take i)) z)) hzb.1 ?_) ?_
      · rw [List.getElem?_map, e2]
        rfl
      · walk_at "go"
        rw [← behind_take hz]
        exact ⟨_, rfl, rfl⟩
    · obtain ⟨y, rfl, rfl⟩ := h
      rw [List.length_map, List.take_length]
      walk_at "go"
      exact q
def spLaw (K : PySem.W.Frag) : Sp := fun vs H Q _ => ∃ (a : Addr) (ns : List Int), vs = [.ref a] ∧ SqL K H a (ns.map V.int) ∧ ns.length ≤ 63 ∧ ∀ H', Q (.bl true) H'
theorem five : ∀ {c : Int} {i : Nat} {x : V}, 0 ≤ c → c ≤ 40 → [V.int 0, V.int 1, V.int 2, V.int 5, V.int c][i]? = some x → ∃ z, x = V.int z ∧ 0 ≤ z ∧ z ≤ 40
  | c, 0, x, _, _, h => ⟨0, (Option.some.inj h).symm, by decide, by decide⟩
  | c, 1, x, _, _, h => ⟨1, (Option.some.inj h).symm, by decide, by decide⟩
  | c, 2, x, _, _, h => ⟨2, (Option.some.inj h).symm, by decide, by decide⟩
  | c, 3, x, _, _, h => ⟨5, (Option.some.inj h).symm, by decide, by decide⟩
  | c, 4, x, h0, h1, h => ⟨c, (Option.some.inj h).symm, h0, h1⟩
  | c, i + 5, x, _, _, h => by
    have := (List.getElem?_eq_some_iff.mp h).1
    simp only [List.length_cons, List.length_nil] at this
    omega
theorem ok_law (T : Txt K mg) : FnOk P w K mg base CX0 7 T.a_law T.fd_law ["_law_script"] (spLaw K) := by
  refine T.F_law.ok sc_law (fun vs H Q E h => ?_) (fun cdv A outer s H vs Q E hr h => ?_)
  · obtain ⟨a, ns, rfl, _⟩ := h
    rfl
  · obtain ⟨a, ns, rfl, hS, hlen, q⟩ := h
    refine ⟨_, (pss_cons (ps_set (i := 1) sc_law.nd rfl (Or.inr rfl) (pe_call (ok__law_mix T) (hr.mono (by decide)) (by rfl) T.g__law_mix T.F__law_mix.kp T.b__law_mix .nil pass0 (pa_cons (pv 0) (pa_cons pe_int pa_nil))))
 (pss_cons (ps_for PassesOwn.never rfl (pi_range1 rfl T.z_range (pa_cons pe_int pa_nil)) (pg_name (i := 2) sc_law.nd rfl (Or.inl rfl))
 (pss_cons (ps_set (i := 3) sc_law.nd rfl (Or.inr rfl) (pe_op (r := rAddU K) op_addU pe_int (pe_call (ok__law_next T) (hr.mono (by decide)) (by rfl) T.g__law_next T.F__law_next.kp T.b__law_next .nil pass0 (pa_cons (pv 1) (pa_cons pe_int pa_nil)))))
 (pss_cons (ps_set (i := 4) sc_law.nd rfl (Or.inl rfl) (pe_call (ok__law_parts T) (hr.mono (by decide)) (by rfl) T.g__law_parts T.F__law_parts.kp T.b__law_parts .nil pass0 (pa_cons (pv 1) (pa_cons (pv 3) pa_nil))))
 (pss_cons (ps_set (i := 5) sc_law.nd rfl (Or.inl rfl) (pe_make T.m_Machine (ok_Machine_init T) (hr.mono (by decide)) (by rfl) T.g_Machine T.b_Machine_init .nil pass0 (pa_cons (pe_ix (r := rIx K) ix_seq (pv 4) pe_int (fun _ _ => rfl)) (pa_cons (pe_ix (r := rIx K) ix_seq (pv 4) pe_int (fun _ _ => rfl)) pa_nil))))
 (pss_one (ps_for PassesOwn.never rfl (pi_seq (pe_lst (pa_cons pe_int (pa_cons pe_int (pa_cons pe_int (pa_cons pe_int (pa_cons (pe_call (ok__law_pick T) (hr.mono (by decide)) (by rfl) T.g__law_pick T.F__law_pick.kp T.b__law_pick .nil pass0 (pa_cons (pv 1) (pa_cons (pe_lst (pa_cons pe_int (pa_cons pe_int pa_nil))) pa_nil))) pa_nil))))))) (pg_name (i := 6) sc_law.nd rfl (Or.inl rfl))
 (pss_cons (ps_set (i := 7) sc_law.nd rfl (Or.inl rfl) (pe_callTy (r := rTupU K) call_tupU (by rfl) T.z_tuple (by decide +kernel) (pa_cons (pe_lc (own := [("_law_k", 9)]) (g := (gName 9)) (tt := tYes) rfl sc_law.nd (pi_range1 rfl T.z_range (pa_cons (pv 6) pa_nil)) (blkOk_by (N := ["_law_script", "_law_h", "_law_turn", "_law_letters", "_law_parts_here", "_law_machine", "_law_many", "_law_row", "_law_end_here", "_law_k"]) (sc := defScope s_law) (by decide +kernel)) (fun _ _ _ _ _ => (pg_name (i := 9) sc_law.nd rfl (Or.inl rfl))) (fun _ _ _ _ _ => pts_nil) (fun _ _ _ _ _ => (pe_call (ok__law_next T) (hr.mono (by decide)) (by rfl) T.g__law_next T.F__law_next.kp T.b__law_next .nil pass0 (pa_cons (pv 1) (pa_cons (pv 3) pa_nil))))) pa_nil)))
 (pss_cons (ps_set (i := 8) sc_law.nd rfl (Or.inl rfl) (pe_call (ok__law_end T) (hr.mono (by decide)) (by rfl) T.g__law_end T.F__law_end.kp T.b__law_end .nil pass0 (pa_cons (pv 4) (pa_cons pe_int (pa_cons (pv 7) pa_nil)))))
 (pss_one (ps_if (pt_not (pt_val (pe_call (ok__law_alike T) (hr.mono (by decide)) (by rfl) T.g__law_alike T.F__law_alike.kp T.b__law_alike .nil pass0 (pa_cons (pe_lst (pa_cons (pe_call (ok_stand_behind T) (hr.mono (by decide)) (by rfl) T.g_stand_behind T.F_stand_behind.kp T.b_stand_behind .nil pass0 (pa_cons (pv 5) (pa_cons (pv 7) pa_nil))) (pa_cons (pe_call (ok_lets T) (hr.mono (by decide)) (by rfl) T.g_lets T.F_lets.kp T.b_lets .nil pass0 (pa_cons (pv 5) (pa_cons (pv 7) pa_nil))) pa_nil))) (pa_cons (pe_lst (pa_cons (pv 8) (pa_cons (pe_cmpR (r := rIn K false) op_in_seq (pv 8) (pe_ix (r := rIx K) ix_seq (pv 4) pe_int (fun _ _ => rfl)) (by rfl)) pa_nil))) pa_nil))))) (pss_one (ps_ret pe_bl)) pss_nil))))))))))
 (pss_one (ps_ret pe_bl)))), ?_⟩
    refine st0 (σ' := [some _, none, none, none, none, none, none, none, none, none]) rfl ?_
    walk_at "go"
    refine ⟨a, ns, 2, rfl, hS, hlen, by decide, by decide, fun h pc H1 e1 n1 n2 D1 => ?_⟩
    walk_at "go"
    refine f_forR ?_
    walk_at "go"
    refine ⟨4, rfl, by decide, by decide, for_range (fun i σ H2 => ∃ y2 y3 y4 y5 y6 y7 y8, σ = [some (.ref a), some (.ref h), y2, y3, y4, y5, y6, y7, y8, none] ∧ Dr H2 h pc) ⟨_, _, _, _, _, _, _, rfl, D1⟩ (fun i σ H2 hi hp => ?_) (fun σ H2 hp => ?_)⟩
    · obtain ⟨y2, y3, y4, y5, y6, y7, y8, rfl, D2⟩ := hp
      walk_at "go"
      refine ⟨h, pc, 3, rfl, D2, by decide, by decide, fun m H3 m0 m1 s3 => ?_⟩
      walk_at "go"
      obtain ⟨L, hL, l1, l3⟩ : ∃ L : Nat, (1 : Int) + m = L ∧ 1 ≤ L ∧ L ≤ 3 := ⟨(1 + m).toNat, by omega, by omega, by omega⟩
      rw [hL]
      walk_at "go"
      refine ⟨h, pc, L, rfl, s3.dr, l1, l3, fun p v vg rows gs H4 s4 hp hv hg hok => ?_⟩
      walk_at "go"
      refine ix_t hp (atI_nat (j := 0) rfl) ?_
      walk_at "go"
      refine ix_t hp (atI_nat (j := 1) rfl) ?_
      walk_at "go"
      refine mk_mach hv hg hok fun x H5 nx e45 hM => ?_
      have D5 := s4.dr.same e45
      walk_at "go"
      refine f_forL ?_
      walk_at "go"
      refine al_l (sz1000 (by show 2 ≤ 1000; decide)) fun p6 H6 n6 e6 h6 _ => ?_
      walk_at "go"
      refine ⟨h, pc, p6, _, rfl, D5.same e6, by show 0 < 2; decide, by show 2 ≤ 1000; decide, .inr ⟨h6, D5.not n6⟩, fun k c H7 hc s7 => ?_⟩
      have d7 : DrS h pc H5 H7 := (DrS.of D5 e6).trans s7
      obtain ⟨c, rfl, c0, c1⟩ : ∃ c', c = V.int c' ∧ 0 ≤ c' ∧ c' ≤ 40 := by
        rcases two_ints hc with e | e
        · exact ⟨10, e, by decide, by decide⟩
        · exact ⟨40, e, by decide, by decide⟩
      walk_at "go"
      refine al_l (sz1000 (by show 5 ≤ 1000; decide)) fun p8 H8 n8 e8 h8 _ => ?_
      have d8 : DrS h pc H5 H8 := d7.trans (DrS.of d7.dr e8)
      have n58 : p8 ∉ [h, pc] := d7.dr.not n8
      walk_at "go"
      refine ⟨p8, rfl, ⟨_, sqL h8⟩, for_list (K := K) (a := p8) (xs := [V.int 0, V.int 1, V.int 2, V.int 5, V.int c]) (fun j σ H2 => ∃ y6 y7 y8, σ = [some (.ref a), some (.ref h), some (.int (0 + (i : Nat))), some (.int L), some (.ref p), some (.ref x), y6, y7, y8, none] ∧ DrS h pc H5 H2 ∧ H2 p8 = some (.lst [V.int 0, V.int 1, V.int 2, V.int 5, V.int c])) ⟨_, _, _, rfl, d8, h8⟩ (fun j σ H9 _ hp => ?_) (fun j x9 σ H9 hj hp => ?_) (fun σ H9 hp => ?_)⟩
      · obtain ⟨_, _, _, _, _, hp9⟩ := hp
        exact sqL hp9
      · obtain ⟨y6, y7, y8, rfl, d9, hp9⟩ := hp
        obtain ⟨z, rfl, z0, z40⟩ := five c0 c1 hj
        have d49 : DrS h pc H4 H9 := (DrS.of s4.dr e45).trans d9
        have nl9 : NL H4 H9 := s4.dr.nl d49.bt
        have nl59 : NL H5 H9 := D5.nl d9.bt
        walk_at "go"
        refine e_lcR ?_
        walk_at "go"
        refine ⟨z, rfl, by omega, by omega, ?_⟩
        refine comp_dr (h := h) (pc := pc) (fun y => ∃ u, y = V.int u ∧ 0 ≤ u ∧ u < (L : Int)) (σw := [some (.ref a), some (.ref h), some (.int (0 + (i : Nat))), some (.int L), some (.ref p), some (.ref x), some (.int z), y7, y8, none]) rfl (by omega) d9.dr ?_ ?_
        · intro k H10 R hk s10 hR
          walk_at "go"
          refine ⟨rfl, ?_⟩
          walk_at "go"
          exact ⟨h, pc, _, rfl, s10.dr, by omega, by omega, fun u H11 u0 u1 s11 => hR _ _ ⟨u, rfl, u0, u1⟩ s11⟩
        · intro D10 H10 ys n10 s10 h10 hly hys
          obtain ⟨row, rfl, hrow⟩ := ints_of hys
          rw [List.length_map] at hly
          have hR : OkR L row := ⟨by omega, hrow⟩
          walk_at "go"
          refine tup_l (sqL h10) fun p11 H11 n11 e11 h11 _ => ?_
          have d11 : DrS h pc H9 H11 := s10.trans (DrS.of s10.dr e11)
          have nl11 : NL H4 H11 := nl9.trans (d9.dr.nl d11.bt)
          have nl511 : NL H5 H11 := nl59.trans (d9.dr.nl d11.bt)
          walk_at "go"
          refine ⟨p, p11, v, vg, 0, L, rows, gs, row, rfl, nl11.t hp, hv.nl nl11, hok, by decide, by have := hok.n1; omega, sqT h11, hR, ?_⟩
          walk_at "go"
          refine ⟨.ref x, .ref p11, L, rows, gs, row, rfl, hM.nl nl511, hok, ⟨p11, rfl, sqT h11⟩, hR, fun H12 e12 => ?_⟩
          walk_at "go"
          refine ⟨.ref x, .ref p11, L, rows, gs, row, rfl, hM.nl (nl511.trans e12.nl), hok, ⟨p11, rfl, sqT (e12 _ _ h11)⟩, hR, fun H13 e13 => ?_⟩
          walk_at "go"
          refine al_l (sz1000 (by show 2 ≤ 1000; decide)) fun p14 H14 n14 e14 h14 _ => ?_
          have e114 : Same H11 H14 := (e12.trans e13).trans e14
          have nl14 : NL H4 H14 := nl11.trans e114.nl
          walk_at "go"
          refine ix_t (nl14.t hp) (atI_nat (j := 1) rfl) ?_
          obtain ⟨cg, rfl, hcg⟩ := hg.nl nl14
          refine ⟨cg, _, rfl, .inr hcg, rfl, flat_ints gs, ?_⟩
          rw [inV_int]
          walk_at "go"
          refine al_l (sz1000 (by show 2 ≤ 1000; decide)) fun p15 H15 n15 e15 h15 _ => ?_
          walk_at "go"
          refine ⟨.ref p14, .ref p15, rfl, .lst (e15 _ _ h14) h15 rfl (by show 2 ≤ 1000; decide) (fun k x y hx hy => ?_), fun H16 e16 => ?_⟩
          · match k with
            | 0 =>
              cases hx
              cases hy
              exact .int _
            | 1 =>
              cases hx
              cases hy
              exact .bl _
            | k + 2 =>
              have := (List.getElem?_eq_some_iff.mp hx).1
              simp only [List.length_cons, List.length_nil] at this
              omega
          · walk_at "go"
            have d16 : DrS h pc H9 H16 := d11.trans (DrS.of d11.dr ((e114.trans e15).trans e16))
            exact ⟨_, _, _, rfl, d9.trans d16, d16.get hp9 n58⟩
      · obtain ⟨y6, y7, y8, rfl, d9, hp9⟩ := hp
        walk_at "go"
        exact ⟨_, _, _, _, _, _, _, rfl, d9.dr⟩
    · obtain ⟨y2, y3, y4, y5, y6, y7, y8, rfl, D2⟩ := hp
      walk_at "go"
      exact q _
end
theorem all_mk {l : PySem.W.OpenLaw} {w : World} {K : PySem.W.Frag} {h : Heap} {mg : Str → Option Value} {fa : Addr} (X : K.In h) (G : h.Ns mainGlobals mg) (hfa : mg "law" = some (.ref fa))
    {t_MOST_STANDS : Tok}
    {t_MOST_LETTERS : Tok}
    {t_LONGEST_ROW : Tok}
    {C_Machine : Addr}
    {a_is_below : Addr} {od_is_below an_is_below : Option Addr} {sl_is_below : Array (Option Value)} {oc_is_below kV_is_below dc_is_below pm_is_below cd_is_below ct_is_below : Value}
    {a_are_below : Addr} {od_are_below an_are_below : Option Addr} {sl_are_below : Array (Option Value)} {oc_are_below kV_are_below dc_are_below pm_are_below cd_are_below ct_are_below : Value}
    {a_Machine_init : Addr} {od_Machine_init an_Machine_init : Option Addr} {sl_Machine_init : Array (Option Value)} {oc_Machine_init kV_Machine_init dc_Machine_init pm_Machine_init cd_Machine_init ct_Machine_init : Value}
    {a_Machine_steps : Addr} {od_Machine_steps an_Machine_steps : Option Addr} {sl_Machine_steps : Array (Option Value)} {oc_Machine_steps kV_Machine_steps dc_Machine_steps pm_Machine_steps cd_Machine_steps ct_Machine_steps : Value}
    {pa_Machine_steps : Addr} {rs_Machine_steps : List Value}
    {a_Machine_good : Addr} {od_Machine_good an_Machine_good : Option Addr} {sl_Machine_good : Array (Option Value)} {oc_Machine_good kV_Machine_good dc_Machine_good pm_Machine_good cd_Machine_good ct_Machine_good : Value}
    {pa_Machine_good : Addr} {rs_Machine_good : List Value}
    {a_check_steps : Addr} {od_check_steps an_check_steps : Option Addr} {sl_check_steps : Array (Option Value)} {oc_check_steps kV_check_steps dc_check_steps pm_check_steps cd_check_steps ct_check_steps : Value}
    {a_are_leads : Addr} {od_are_leads an_are_leads : Option Addr} {sl_are_leads : Array (Option Value)} {oc_are_leads kV_are_leads dc_are_leads pm_are_leads cd_are_leads ct_are_leads : Value}
    {a_check_good : Addr} {od_check_good an_check_good : Option Addr} {sl_check_good : Array (Option Value)} {oc_check_good kV_check_good dc_check_good pm_check_good cd_check_good ct_check_good : Value}
    {a_letters_of : Addr} {od_letters_of an_letters_of : Option Addr} {sl_letters_of : Array (Option Value)} {oc_letters_of kV_letters_of dc_letters_of pm_letters_of cd_letters_of ct_letters_of : Value}
    {a_check_row : Addr} {od_check_row an_check_row : Option Addr} {sl_check_row : Array (Option Value)} {oc_check_row kV_check_row dc_check_row pm_check_row cd_check_row ct_check_row : Value}
    {a_stand_behind : Addr} {od_stand_behind an_stand_behind : Option Addr} {sl_stand_behind : Array (Option Value)} {oc_stand_behind kV_stand_behind dc_stand_behind pm_stand_behind cd_stand_behind ct_stand_behind : Value}
    {a_lets : Addr} {od_lets an_lets : Option Addr} {sl_lets : Array (Option Value)} {oc_lets kV_lets dc_lets pm_lets cd_lets ct_lets : Value}
    {a__law_mix : Addr} {od__law_mix an__law_mix : Option Addr} {sl__law_mix : Array (Option Value)} {oc__law_mix kV__law_mix dc__law_mix pm__law_mix cd__law_mix ct__law_mix : Value}
    {a__law_next : Addr} {od__law_next an__law_next : Option Addr} {sl__law_next : Array (Option Value)} {oc__law_next kV__law_next dc__law_next pm__law_next cd__law_next ct__law_next : Value}
    {a__law_alike : Addr} {od__law_alike an__law_alike : Option Addr} {sl__law_alike : Array (Option Value)} {oc__law_alike kV__law_alike dc__law_alike pm__law_alike cd__law_alike ct__law_alike : Value}
    {a__law_pick : Addr} {od__law_pick an__law_pick : Option Addr} {sl__law_pick : Array (Option Value)} {oc__law_pick kV__law_pick dc__law_pick pm__law_pick cd__law_pick ct__law_pick : Value}
    {a__law_parts : Addr} {od__law_parts an__law_parts : Option Addr} {sl__law_parts : Array (Option Value)} {oc__law_parts kV__law_parts dc__law_parts pm__law_parts cd__law_parts ct__law_parts : Value}
    {a__law_end : Addr} {od__law_end an__law_end : Option Addr} {sl__law_end : Array (Option Value)} {oc__law_end kV__law_end dc__law_end pm__law_end cd__law_end ct__law_end : Value}
    {a_law : Addr} {od_law an_law : Option Addr} {sl_law : Array (Option Value)} {oc_law kV_law dc_law pm_law cd_law ct_law : Value}
    (z_all : PySem.W.nsIn K mainGlobals "all" = some none)
    (z_bool : PySem.W.nsIn K mainGlobals "bool" = some none)
    (z_enumerate : PySem.W.nsIn K mainGlobals "enumerate" = some none)
    (z_int : PySem.W.nsIn K mainGlobals "int" = some none)
    (z_isinstance : PySem.W.nsIn K mainGlobals "isinstance" = some none)
    (z_len : PySem.W.nsIn K mainGlobals "len" = some none)
    (z_list : PySem.W.nsIn K mainGlobals "list" = some none)
    (z_max : PySem.W.nsIn K mainGlobals "max" = some none)
    (z_min : PySem.W.nsIn K mainGlobals "min" = some none)
    (z_range : PySem.W.nsIn K mainGlobals "range" = some none)
    (z_str : PySem.W.nsIn K mainGlobals "str" = some none)
    (z_tuple : PySem.W.nsIn K mainGlobals "tuple" = some none)
    (z_zip : PySem.W.nsIn K mainGlobals "zip" = some none)
    (g_MOST_STANDS : PySem.W.nsIn K mainGlobals "MOST_STANDS" = some (some (.int 8 t_MOST_STANDS)))
    (g_MOST_LETTERS : PySem.W.nsIn K mainGlobals "MOST_LETTERS" = some (some (.int 3 t_MOST_LETTERS)))
    (g_LONGEST_ROW : PySem.W.nsIn K mainGlobals "LONGEST_ROW" = some (some (.int 40 t_LONGEST_ROW)))
    (g_Machine : PySem.W.nsIn K mainGlobals "Machine" = some (some (.ref C_Machine)))
    (pg_Machine : PySem.W.plainGet K C_Machine Str.empty = true)
    (hd_Machine : PySem.W.hasDictIn K C_Machine = true)
    (po_Machine : PySem.W.plainOver K C_Machine = true)
    (sa_Machine : PySem.W.findIn K (.ref C_Machine) "__setattr__" = some (some (.builtin "object.__setattr__")))
    (mk_Machine : PySem.W.makesIn K C_Machine = true)
    (kc_Machine : PySem.W.keepIn K (.ref C_Machine) = true)
    (n_Machine__steps : PySem.W.findIn K (.ref C_Machine) "_steps" = some none)
    (n_Machine__good : PySem.W.findIn K (.ref C_Machine) "_good" = some none)
    (a1_is_below : PySem.W.nsIn K mainGlobals "is_below" = some (some (.ref a_is_below)))
    (l_is_below : K.lookup a_is_below = some ⟨oc_is_below, od_is_below, .func (PySem.W.fnOf "is_below" "is_below" (defArgs s_is_below) (defBody s_is_below) (defScope s_is_below) .none kV_is_below dc_is_below pm_is_below an_is_below cd_is_below ct_is_below), sl_is_below⟩)
    (c_is_below : PySem.W.codeIn K cd_is_below "is_below" = true)
    (k_is_below : PySem.W.keepIn K (.ref a_is_below) = true)
    (a1_are_below : PySem.W.nsIn K mainGlobals "are_below" = some (some (.ref a_are_below)))
    (l_are_below : K.lookup a_are_below = some ⟨oc_are_below, od_are_below, .func (PySem.W.fnOf "are_below" "are_below" (defArgs s_are_below) (defBody s_are_below) (defScope s_are_below) .none kV_are_below dc_are_below pm_are_below an_are_below cd_are_below ct_are_below), sl_are_below⟩)
    (c_are_below : PySem.W.codeIn K cd_are_below "are_below" = true)
    (k_are_below : PySem.W.keepIn K (.ref a_are_below) = true)
    (a1_Machine_init : PySem.W.findIn K (.ref C_Machine) "__init__" = some (some (.ref a_Machine_init)))
    (i_Machine_init : PySem.W.isFn K (.ref a_Machine_init) = true)
    (l_Machine_init : K.lookup a_Machine_init = some ⟨oc_Machine_init, od_Machine_init, .func (PySem.W.fnOf "__init__" "Machine.__init__" (defArgs s_Machine_init) (defBody s_Machine_init) (defScope s_Machine_init) .none kV_Machine_init dc_Machine_init pm_Machine_init an_Machine_init cd_Machine_init ct_Machine_init), sl_Machine_init⟩)
    (c_Machine_init : PySem.W.codeIn K cd_Machine_init "Machine.__init__" = true)
    (k_Machine_init : PySem.W.keepIn K (.ref a_Machine_init) = true)
    (a1_Machine_steps : PySem.W.findIn K (.ref C_Machine) "steps" = some (some (.ref pa_Machine_steps)))
    (a2_Machine_steps : PySem.W.specialIn K (.ref pa_Machine_steps) "__get__" = some (some (.builtin "property.__get__")))
    (a3_Machine_steps : PySem.W.takesIn K (.ref pa_Machine_steps) = some true)
    (a4_Machine_steps : PySem.W.recIn K pa_Machine_steps "property" = some (.ref a_Machine_steps :: rs_Machine_steps))
    (l_Machine_steps : K.lookup a_Machine_steps = some ⟨oc_Machine_steps, od_Machine_steps, .func (PySem.W.fnOf "steps" "Machine.steps" (defArgs s_Machine_steps) (defBody s_Machine_steps) (defScope s_Machine_steps) .none kV_Machine_steps dc_Machine_steps pm_Machine_steps an_Machine_steps cd_Machine_steps ct_Machine_steps), sl_Machine_steps⟩)
    (c_Machine_steps : PySem.W.codeIn K cd_Machine_steps "Machine.steps" = true)
    (k_Machine_steps : PySem.W.keepIn K (.ref a_Machine_steps) = true)
    (a1_Machine_good : PySem.W.findIn K (.ref C_Machine) "good" = some (some (.ref pa_Machine_good)))
    (a2_Machine_good : PySem.W.specialIn K (.ref pa_Machine_good) "__get__" = some (some (.builtin "property.__get__")))
    (a3_Machine_good : PySem.W.takesIn K (.ref pa_Machine_good) = some true)
    (a4_Machine_good : PySem.W.recIn K pa_Machine_good "property" = some (.ref a_Machine_good :: rs_Machine_good))
    (l_Machine_good : K.lookup a_Machine_good = some ⟨oc_Machine_good, od_Machine_good, .func (PySem.W.fnOf "good" "Machine.good" (defArgs s_Machine_good) (defBody s_Machine_good) (defScope s_Machine_good) .none kV_Machine_good dc_Machine_good pm_Machine_good an_Machine_good cd_Machine_good ct_Machine_good), sl_Machine_good⟩)
    (c_Machine_good : PySem.W.codeIn K cd_Machine_good "Machine.good" = true)
    (k_Machine_good : PySem.W.keepIn K (.ref a_Machine_good) = true)
    (a1_check_steps : PySem.W.nsIn K mainGlobals "check_steps" = some (some (.ref a_check_steps)))
    (l_check_steps : K.lookup a_check_steps = some ⟨oc_check_steps, od_check_steps, .func (PySem.W.fnOf "check_steps" "check_steps" (defArgs s_check_steps) (defBody s_check_steps) (defScope s_check_steps) .none kV_check_steps dc_check_steps pm_check_steps an_check_steps cd_check_steps ct_check_steps), sl_check_steps⟩)
    (c_check_steps : PySem.W.codeIn K cd_check_steps "check_steps" = true)
    (k_check_steps : PySem.W.keepIn K (.ref a_check_steps) = true)
    (a1_are_leads : PySem.W.nsIn K mainGlobals "are_leads" = some (some (.ref a_are_leads)))
    (l_are_leads : K.lookup a_are_leads = some ⟨oc_are_leads, od_are_leads, .func (PySem.W.fnOf "are_leads" "are_leads" (defArgs s_are_leads) (defBody s_are_leads) (defScope s_are_leads) .none kV_are_leads dc_are_leads pm_are_leads an_are_leads cd_are_leads ct_are_leads), sl_are_leads⟩)
    (c_are_leads : PySem.W.codeIn K cd_are_leads "are_leads" = true)
    (k_are_leads : PySem.W.keepIn K (.ref a_are_leads) = true)
    (a1_check_good : PySem.W.nsIn K mainGlobals "check_good" = some (some (.ref a_check_good)))
    (l_check_good : K.lookup a_check_good = some ⟨oc_check_good, od_check_good, .func (PySem.W.fnOf "check_good" "check_good" (defArgs s_check_good) (defBody s_check_good) (defScope s_check_good) .none kV_check_good dc_check_good pm_check_good an_check_good cd_check_good ct_check_good), sl_check_good⟩)
    (c_check_good : PySem.W.codeIn K cd_check_good "check_good" = true)
    (k_check_good : PySem.W.keepIn K (.ref a_check_good) = true)
    (a1_letters_of : PySem.W.nsIn K mainGlobals "letters_of" = some (some (.ref a_letters_of)))
    (l_letters_of : K.lookup a_letters_of = some ⟨oc_letters_of, od_letters_of, .func (PySem.W.fnOf "letters_of" "letters_of" (defArgs s_letters_of) (defBody s_letters_of) (defScope s_letters_of) .none kV_letters_of dc_letters_of pm_letters_of an_letters_of cd_letters_of ct_letters_of), sl_letters_of⟩)
    (c_letters_of : PySem.W.codeIn K cd_letters_of "letters_of" = true)
    (k_letters_of : PySem.W.keepIn K (.ref a_letters_of) = true)
    (a1_check_row : PySem.W.nsIn K mainGlobals "check_row" = some (some (.ref a_check_row)))
    (l_check_row : K.lookup a_check_row = some ⟨oc_check_row, od_check_row, .func (PySem.W.fnOf "check_row" "check_row" (defArgs s_check_row) (defBody s_check_row) (defScope s_check_row) .none kV_check_row dc_check_row pm_check_row an_check_row cd_check_row ct_check_row), sl_check_row⟩)
    (c_check_row : PySem.W.codeIn K cd_check_row "check_row" = true)
    (k_check_row : PySem.W.keepIn K (.ref a_check_row) = true)
    (a1_stand_behind : PySem.W.nsIn K mainGlobals "stand_behind" = some (some (.ref a_stand_behind)))
    (l_stand_behind : K.lookup a_stand_behind = some ⟨oc_stand_behind, od_stand_behind, .func (PySem.W.fnOf "stand_behind" "stand_behind" (defArgs s_stand_behind) (defBody s_stand_behind) (defScope s_stand_behind) .none kV_stand_behind dc_stand_behind pm_stand_behind an_stand_behind cd_stand_behind ct_stand_behind), sl_stand_behind⟩)
    (c_stand_behind : PySem.W.codeIn K cd_stand_behind "stand_behind" = true)
    (k_stand_behind : PySem.W.keepIn K (.ref a_stand_behind) = true)
    (a1_lets : PySem.W.nsIn K mainGlobals "lets" = some (some (.ref a_lets)))
    (l_lets : K.lookup a_lets = some ⟨oc_lets, od_lets, .func (PySem.W.fnOf "lets" "lets" (defArgs s_lets) (defBody s_lets) (defScope s_lets) .none kV_lets dc_lets pm_lets an_lets cd_lets ct_lets), sl_lets⟩)
    (c_lets : PySem.W.codeIn K cd_lets "lets" = true)
    (k_lets : PySem.W.keepIn K (.ref a_lets) = true)
    (a1__law_mix : PySem.W.nsIn K mainGlobals "_law_mix" = some (some (.ref a__law_mix)))
    (l__law_mix : K.lookup a__law_mix = some ⟨oc__law_mix, od__law_mix, .func (PySem.W.fnOf "_law_mix" "_law_mix" (defArgs s__law_mix) (defBody s__law_mix) (defScope s__law_mix) .none kV__law_mix dc__law_mix pm__law_mix an__law_mix cd__law_mix ct__law_mix), sl__law_mix⟩)
    (c__law_mix : PySem.W.codeIn K cd__law_mix "_law_mix" = true)
    (k__law_mix : PySem.W.keepIn K (.ref a__law_mix) = true)
    (a1__law_next : PySem.W.nsIn K mainGlobals "_law_next" = some (some (.ref a__law_next)))
    (l__law_next : K.lookup a__law_next = some ⟨oc__law_next, od__law_next, .func (PySem.W.fnOf "_law_next" "_law_next" (defArgs s__law_next) (defBody s__law_next) (defScope s__law_next) .none kV__law_next dc__law_next pm__law_next an__law_next cd__law_next ct__law_next), sl__law_next⟩)
    (c__law_next : PySem.W.codeIn K cd__law_next "_law_next" = true)
    (k__law_next : PySem.W.keepIn K (.ref a__law_next) = true)
    (a1__law_alike : PySem.W.nsIn K mainGlobals "_law_alike" = some (some (.ref a__law_alike)))
    (l__law_alike : K.lookup a__law_alike = some ⟨oc__law_alike, od__law_alike, .func (PySem.W.fnOf "_law_alike" "_law_alike" (defArgs s__law_alike) (defBody s__law_alike) (defScope s__law_alike) .none kV__law_alike dc__law_alike pm__law_alike an__law_alike cd__law_alike ct__law_alike), sl__law_alike⟩)
    (c__law_alike : PySem.W.codeIn K cd__law_alike "_law_alike" = true)
    (k__law_alike : PySem.W.keepIn K (.ref a__law_alike) = true)
    (a1__law_pick : PySem.W.nsIn K mainGlobals "_law_pick" = some (some (.ref a__law_pick)))
    (l__law_pick : K.lookup a__law_pick = some ⟨oc__law_pick, od__law_pick, .func (PySem.W.fnOf "_law_pick" "_law_pick" (defArgs s__law_pick) (defBody s__law_pick) (defScope s__law_pick) .none kV__law_pick dc__law_pick pm__law_pick an__law_pick cd__law_pick ct__law_pick), sl__law_pick⟩)
    (c__law_pick : PySem.W.codeIn K cd__law_pick "_law_pick" = true)
    (k__law_pick : PySem.W.keepIn K (.ref a__law_pick) = true)
    (a1__law_parts : PySem.W.nsIn K mainGlobals "_law_parts" = some (some (.ref a__law_parts)))
    (l__law_parts : K.lookup a__law_parts = some ⟨oc__law_parts, od__law_parts, .func (PySem.W.fnOf "_law_parts" "_law_parts" (defArgs s__law_parts) (defBody s__law_parts) (defScope s__law_parts) .none kV__law_parts dc__law_parts pm__law_parts an__law_parts cd__law_parts ct__law_parts), sl__law_parts⟩)
    (c__law_parts : PySem.W.codeIn K cd__law_parts "_law_parts" = true)
    (k__law_parts : PySem.W.keepIn K (.ref a__law_parts) = true)
    (a1__law_end : PySem.W.nsIn K mainGlobals "_law_end" = some (some (.ref a__law_end)))
    (l__law_end : K.lookup a__law_end = some ⟨oc__law_end, od__law_end, .func (PySem.W.fnOf "_law_end" "_law_end" (defArgs s__law_end) (defBody s__law_end) (defScope s__law_end) .none kV__law_end dc__law_end pm__law_end an__law_end cd__law_end ct__law_end), sl__law_end⟩)
    (c__law_end : PySem.W.codeIn K cd__law_end "_law_end" = true)
    (k__law_end : PySem.W.keepIn K (.ref a__law_end) = true)
    (a1_law : PySem.W.nsIn K mainGlobals "law" = some (some (.ref a_law)))
    (l_law : K.lookup a_law = some ⟨oc_law, od_law, .func (PySem.W.fnOf "law" "law" (defArgs s_law) (defBody s_law) (defScope s_law) .none kV_law dc_law pm_law an_law cd_law ct_law), sl_law⟩)
    (c_law : PySem.W.codeIn K cd_law "law" = true)
    (k_law : PySem.W.keepIn K (.ref a_law) = true)
    : ∃ fd : FuncData, (∀ (s : Shared) (v : Value), BindsTo s fd ⟨[v], []⟩ [("_law_script", v)]) ∧ ∀ base : Heap, K.In base → base.Ns mainGlobals mg → FnOk l.prog w K mg base CX0 7 fa fd ["_law_script"] (spLaw K) := by
  have e := hfa.symm.trans (PySem.W.mg_of X G a1_law)
  cases e
  have F_is_below := fun_mk (st := s_is_below) l_is_below c_is_below k_is_below
  have b_is_below := F_is_below.binds (ps := ["value", "limit"]) fun _ _ _ _ _ _ us hl => match us, hl with | [_, _], _ => rfl
  have F_are_below := fun_mk (st := s_are_below) l_are_below c_are_below k_are_below
  have b_are_below := F_are_below.binds (ps := ["values", "limit"]) fun _ _ _ _ _ _ us hl => match us, hl with | [_, _], _ => rfl
  have F_Machine_init := fun_mk (st := s_Machine_init) l_Machine_init c_Machine_init k_Machine_init
  have b_Machine_init := F_Machine_init.binds (ps := ["self", "steps", "good"]) fun _ _ _ _ _ _ us hl => match us, hl with | [_, _, _], _ => rfl
  have F_Machine_steps := fun_mk (st := s_Machine_steps) l_Machine_steps c_Machine_steps k_Machine_steps
  have b_Machine_steps := F_Machine_steps.binds (ps := ["self"]) fun _ _ _ _ _ _ us hl => match us, hl with | [_], _ => rfl
  have F_Machine_good := fun_mk (st := s_Machine_good) l_Machine_good c_Machine_good k_Machine_good
  have b_Machine_good := F_Machine_good.binds (ps := ["self"]) fun _ _ _ _ _ _ us hl => match us, hl with | [_], _ => rfl
  have F_check_steps := fun_mk (st := s_check_steps) l_check_steps c_check_steps k_check_steps
  have b_check_steps := F_check_steps.binds (ps := ["steps"]) fun _ _ _ _ _ _ us hl => match us, hl with | [_], _ => rfl
  have F_are_leads := fun_mk (st := s_are_leads) l_are_leads c_are_leads k_are_leads
  have b_are_leads := F_are_leads.binds (ps := ["leads", "stands"]) fun _ _ _ _ _ _ us hl => match us, hl with | [_, _], _ => rfl
  have F_check_good := fun_mk (st := s_check_good) l_check_good c_check_good k_check_good
  have b_check_good := F_check_good.binds (ps := ["good", "stands"]) fun _ _ _ _ _ _ us hl => match us, hl with | [_, _], _ => rfl
  have F_letters_of := fun_mk (st := s_letters_of) l_letters_of c_letters_of k_letters_of
  have b_letters_of := F_letters_of.binds (ps := ["machine"]) fun _ _ _ _ _ _ us hl => match us, hl with | [_], _ => rfl
  have F_check_row := fun_mk (st := s_check_row) l_check_row c_check_row k_check_row
  have b_check_row := F_check_row.binds (ps := ["machine", "row"]) fun _ _ _ _ _ _ us hl => match us, hl with | [_, _], _ => rfl
  have F_stand_behind := fun_mk (st := s_stand_behind) l_stand_behind c_stand_behind k_stand_behind
  have b_stand_behind := F_stand_behind.binds (ps := ["machine", "row"]) fun _ _ _ _ _ _ us hl => match us, hl with | [_, _], _ => rfl
  have F_lets := fun_mk (st := s_lets) l_lets c_lets k_lets
  have b_lets := F_lets.binds (ps := ["machine", "row"]) fun _ _ _ _ _ _ us hl => match us, hl with | [_, _], _ => rfl
  have F__law_mix := fun_mk (st := s__law_mix) l__law_mix c__law_mix k__law_mix
  have b__law_mix := F__law_mix.binds (ps := ["_law_script", "_law_seed"]) fun _ _ _ _ _ _ us hl => match us, hl with | [_, _], _ => rfl
  have F__law_next := fun_mk (st := s__law_next) l__law_next c__law_next k__law_next
  have b__law_next := F__law_next.binds (ps := ["_law_h", "_law_cap"]) fun _ _ _ _ _ _ us hl => match us, hl with | [_, _], _ => rfl
  have F__law_alike := fun_mk (st := s__law_alike) l__law_alike c__law_alike k__law_alike
  have b__law_alike := F__law_alike.binds (ps := ["_law_found", "_law_due"]) fun _ _ _ _ _ _ us hl => match us, hl with | [_, _], _ => rfl
  have F__law_pick := fun_mk (st := s__law_pick) l__law_pick c__law_pick k__law_pick
  have b__law_pick := F__law_pick.binds (ps := ["_law_h", "_law_things"]) fun _ _ _ _ _ _ us hl => match us, hl with | [_, _], _ => rfl
  have F__law_parts := fun_mk (st := s__law_parts) l__law_parts c__law_parts k__law_parts
  have b__law_parts := F__law_parts.binds (ps := ["_law_h", "_law_letters"]) fun _ _ _ _ _ _ us hl => match us, hl with | [_, _], _ => rfl
  have F__law_end := fun_mk (st := s__law_end) l__law_end c__law_end k__law_end
  have b__law_end := F__law_end.binds (ps := ["_law_parts_here", "_law_stand", "_law_row"]) fun _ _ _ _ _ _ us hl => match us, hl with | [_, _, _], _ => rfl
  have F_law := fun_mk (st := s_law) l_law c_law k_law
  have b_law := F_law.binds (ps := ["_law_script"]) fun _ _ _ _ _ _ us hl => match us, hl with | [_], _ => rfl
  let T : Txt K mg := {
    z_all := PySem.W.mg_none_of X G z_all,
    z_bool := PySem.W.mg_none_of X G z_bool,
    z_enumerate := PySem.W.mg_none_of X G z_enumerate,
    z_int := PySem.W.mg_none_of X G z_int,
    z_isinstance := PySem.W.mg_none_of X G z_isinstance,
    z_len := PySem.W.mg_none_of X G z_len,
    z_list := PySem.W.mg_none_of X G z_list,
    z_max := PySem.W.mg_none_of X G z_max,
    z_min := PySem.W.mg_none_of X G z_min,
    z_range := PySem.W.mg_none_of X G z_range,
    z_str := PySem.W.mg_none_of X G z_str,
    z_tuple := PySem.W.mg_none_of X G z_tuple,
    z_zip := PySem.W.mg_none_of X G z_zip,
    t_MOST_STANDS := t_MOST_STANDS, g_MOST_STANDS := PySem.W.mg_of X G g_MOST_STANDS,
    t_MOST_LETTERS := t_MOST_LETTERS, g_MOST_LETTERS := PySem.W.mg_of X G g_MOST_LETTERS,
    t_LONGEST_ROW := t_LONGEST_ROW, g_LONGEST_ROW := PySem.W.mg_of X G g_LONGEST_ROW,
    C_Machine := C_Machine, c_Machine := ⟨pg_Machine, hd_Machine, po_Machine, sa_Machine⟩, g_Machine := PySem.W.mg_of X G g_Machine,
    n_Machine__steps := n_Machine__steps,
    n_Machine__good := n_Machine__good,
    a_is_below := a_is_below, fd_is_below := _, F_is_below := F_is_below, b_is_below := b_is_below,
    g_is_below := PySem.W.mg_of X G a1_is_below,
    a_are_below := a_are_below, fd_are_below := _, F_are_below := F_are_below, b_are_below := b_are_below,
    g_are_below := PySem.W.mg_of X G a1_are_below,
    a_Machine_init := a_Machine_init, fd_Machine_init := _, F_Machine_init := F_Machine_init, b_Machine_init := b_Machine_init,
    m_Machine := ⟨mk_Machine, a1_Machine_init, i_Machine_init, kc_Machine⟩,
    a_Machine_steps := a_Machine_steps, fd_Machine_steps := _, F_Machine_steps := F_Machine_steps, b_Machine_steps := b_Machine_steps,
    pa_Machine_steps := pa_Machine_steps, p_Machine_steps := ⟨a1_Machine_steps, a2_Machine_steps, a3_Machine_steps, _, a4_Machine_steps⟩,
    a_Machine_good := a_Machine_good, fd_Machine_good := _, F_Machine_good := F_Machine_good, b_Machine_good := b_Machine_good,
    pa_Machine_good := pa_Machine_good, p_Machine_good := ⟨a1_Machine_good, a2_Machine_good, a3_Machine_good, _, a4_Machine_good⟩,
    a_check_steps := a_check_steps, fd_check_steps := _, F_check_steps := F_check_steps, b_check_steps := b_check_steps,
    g_check_steps := PySem.W.mg_of X G a1_check_steps,
    a_are_leads := a_are_leads, fd_are_leads := _, F_are_leads := F_are_leads, b_are_leads := b_are_leads,
    g_are_leads := PySem.W.mg_of X G a1_are_leads,
    a_check_good := a_check_good, fd_check_good := _, F_check_good := F_check_good, b_check_good := b_check_good,
    g_check_good := PySem.W.mg_of X G a1_check_good,
    a_letters_of := a_letters_of, fd_letters_of := _, F_letters_of := F_letters_of, b_letters_of := b_letters_of,
    g_letters_of := PySem.W.mg_of X G a1_letters_of,
    a_check_row := a_check_row, fd_check_row := _, F_check_row := F_check_row, b_check_row := b_check_row,
    g_check_row := PySem.W.mg_of X G a1_check_row,
    a_stand_behind := a_stand_behind, fd_stand_behind := _, F_stand_behind := F_stand_behind, b_stand_behind := b_stand_behind,
    g_stand_behind := PySem.W.mg_of X G a1_stand_behind,
    a_lets := a_lets, fd_lets := _, F_lets := F_lets, b_lets := b_lets,
    g_lets := PySem.W.mg_of X G a1_lets,
    a__law_mix := a__law_mix, fd__law_mix := _, F__law_mix := F__law_mix, b__law_mix := b__law_mix,
    g__law_mix := PySem.W.mg_of X G a1__law_mix,
    a__law_next := a__law_next, fd__law_next := _, F__law_next := F__law_next, b__law_next := b__law_next,
    g__law_next := PySem.W.mg_of X G a1__law_next,
    a__law_alike := a__law_alike, fd__law_alike := _, F__law_alike := F__law_alike, b__law_alike := b__law_alike,
    g__law_alike := PySem.W.mg_of X G a1__law_alike,
    a__law_pick := a__law_pick, fd__law_pick := _, F__law_pick := F__law_pick, b__law_pick := b__law_pick,
    g__law_pick := PySem.W.mg_of X G a1__law_pick,
    a__law_parts := a__law_parts, fd__law_parts := _, F__law_parts := F__law_parts, b__law_parts := b__law_parts,
    g__law_parts := PySem.W.mg_of X G a1__law_parts,
    a__law_end := a__law_end, fd__law_end := _, F__law_end := F__law_end, b__law_end := b__law_end,
    g__law_end := PySem.W.mg_of X G a1__law_end,
    a_law := fa, fd_law := _, F_law := F_law, b_law := b_law,
    g_law := PySem.W.mg_of X G a1_law }
  exact ⟨T.fd_law, fun s v => .of_eq rfl, fun base _ _ => ok_law T⟩
end BF
open PySem PySem.W PyProof.Rows
set_option maxRecDepth 100000 in
set_option maxHeartbeats 0 in
theorem PySem.Challenge.cw_butfewrows_k02_whole_rows_holds : PySem.Challenge.rw_butfewrows_k02_whole_rows.Holds := by
  w_on; o_law; k_head; (case hw => w_witness2)
  k_fill
  refine L2.walk_of (l := PySem.Challenge.rw_butfewrows_k02_whole_rows) (n := 63) (k := 7) (x := "_law_script") (CX := fun _ => L2.CX0) (sp := fun w => BF.spLaw _) rfl (by decide) rfl ⟨rfl, by decide, by decide⟩ (fun w h Y => PySem.W.kIn_of Y) ?F (fun _ _ a ns hl hb hS => ⟨a, ns, rfl, hS, hl, fun _ => rfl⟩) (fun _ _ _ _ _ h => h)
  case F =>
    intro w mg fa h KX G hmg
    refine' BF.all_mk KX G hmg ?z_all ?z_bool ?z_enumerate ?z_int ?z_isinstance ?z_len ?z_list ?z_max ?z_min ?z_range ?z_str ?z_tuple ?z_zip ?g_MOST_STANDS ?g_MOST_LETTERS ?g_LONGEST_ROW ?g_Machine ?pg_Machine ?hd_Machine ?po_Machine ?sa_Machine ?mk_Machine ?kc_Machine ?n_Machine__steps ?n_Machine__good ?a1_is_below ?l_is_below ?c_is_below ?k_is_below ?a1_are_below ?l_are_below ?c_are_below ?k_are_below ?a1_Machine_init ?i_Machine_init ?l_Machine_init ?c_Machine_init ?k_Machine_init ?a1_Machine_steps ?a2_Machine_steps ?a3_Machine_steps ?a4_Machine_steps ?l_Machine_steps ?c_Machine_steps ?k_Machine_steps ?a1_Machine_good ?a2_Machine_good ?a3_Machine_good ?a4_Machine_good ?l_Machine_good ?c_Machine_good ?k_Machine_good ?a1_check_steps ?l_check_steps ?c_check_steps ?k_check_steps ?a1_are_leads ?l_are_leads ?c_are_leads ?k_are_leads ?a1_check_good ?l_check_good ?c_check_good ?k_check_good ?a1_letters_of ?l_letters_of ?c_letters_of ?k_letters_of ?a1_check_row ?l_check_row ?c_check_row ?k_check_row ?a1_stand_behind ?l_stand_behind ?c_stand_behind ?k_stand_behind ?a1_lets ?l_lets ?c_lets ?k_lets ?a1__law_mix ?l__law_mix ?c__law_mix ?k__law_mix ?a1__law_next ?l__law_next ?c__law_next ?k__law_next ?a1__law_alike ?l__law_alike ?c__law_alike ?k__law_alike ?a1__law_pick ?l__law_pick ?c__law_pick ?k__law_pick ?a1__law_parts ?l__law_parts ?c__law_parts ?k__law_parts ?a1__law_end ?l__law_end ?c__law_end ?k__law_end ?a1_law ?l_law ?c_law ?k_law
    (case z_all => k_is)
    (case z_bool => k_is)
    (case z_enumerate => k_is)
    (case z_int => k_is)
    (case z_isinstance => k_is)
    (case z_len => k_is)
    (case z_list => k_is)
    (case z_max => k_is)
    (case z_min => k_is)
    (case z_range => k_is)
    (case z_str => k_is)
    (case z_tuple => k_is)
    (case z_zip => k_is)
    (case g_MOST_STANDS => k_is)
    (case g_MOST_LETTERS => k_is)
    (case g_LONGEST_ROW => k_is)
    (case g_Machine => k_is)
    (case pg_Machine => k_is)
    (case hd_Machine => k_is)
    (case po_Machine => k_is)
    (case sa_Machine => k_is)
    (case mk_Machine => k_is)
    (case kc_Machine => k_is)
    (case n_Machine__steps => k_is)
    (case n_Machine__good => k_is)
    (case a1_is_below => k_is)
    (case l_is_below => k_is)
    (case c_is_below => k_is)
    (case k_is_below => k_is)
    (case a1_are_below => k_is)
    (case l_are_below => k_is)
    (case c_are_below => k_is)
    (case k_are_below => k_is)
    (case a1_Machine_init => k_is)
    (case i_Machine_init => k_is)
    (case l_Machine_init => k_is)
    (case c_Machine_init => k_is)
    (case k_Machine_init => k_is)
    (case a1_Machine_steps => k_is)
    (case a2_Machine_steps => k_is)
    (case a3_Machine_steps => k_is)
    (case a4_Machine_steps => k_is)
    (case l_Machine_steps => k_is)
    (case c_Machine_steps => k_is)
    (case k_Machine_steps => k_is)
    (case a1_Machine_good => k_is)
    (case a2_Machine_good => k_is)
    (case a3_Machine_good => k_is)
    (case a4_Machine_good => k_is)
    (case l_Machine_good => k_is)
    (case c_Machine_good => k_is)
    (case k_Machine_good => k_is)
    (case a1_check_steps => k_is)
    (case l_check_steps => k_is)
    (case c_check_steps => k_is)
    (case k_check_steps => k_is)
    (case a1_are_leads => k_is)
    (case l_are_leads => k_is)
    (case c_are_leads => k_is)
    (case k_are_leads => k_is)
    (case a1_check_good => k_is)
    (case l_check_good => k_is)
    (case c_check_good => k_is)
    (case k_check_good => k_is)
    (case a1_letters_of => k_is)
    (case l_letters_of => k_is)
    (case c_letters_of => k_is)
    (case k_letters_of => k_is)
    (case a1_check_row => k_is)
    (case l_check_row => k_is)
    (case c_check_row => k_is)
    (case k_check_row => k_is)
    (case a1_stand_behind => k_is)
    (case l_stand_behind => k_is)
    (case c_stand_behind => k_is)
    (case k_stand_behind => k_is)
    (case a1_lets => k_is)
    (case l_lets => k_is)
    (case c_lets => k_is)
    (case k_lets => k_is)
    (case a1__law_mix => k_is)
    (case l__law_mix => k_is)
    (case c__law_mix => k_is)
    (case k__law_mix => k_is)
    (case a1__law_next => k_is)
    (case l__law_next => k_is)
    (case c__law_next => k_is)
    (case k__law_next => k_is)
    (case a1__law_alike => k_is)
    (case l__law_alike => k_is)
    (case c__law_alike => k_is)
    (case k__law_alike => k_is)
    (case a1__law_pick => k_is)
    (case l__law_pick => k_is)
    (case c__law_pick => k_is)
    (case k__law_pick => k_is)
    (case a1__law_parts => k_is)
    (case l__law_parts => k_is)
    (case c__law_parts => k_is)
    (case k__law_parts => k_is)
    (case a1__law_end => k_is)
    (case l__law_end => k_is)
    (case c__law_end => k_is)
    (case k__law_end => k_is)
    (case a1_law => k_is)
    (case l_law => k_is)
    (case c_law => k_is)
    (case k_law => k_is)

