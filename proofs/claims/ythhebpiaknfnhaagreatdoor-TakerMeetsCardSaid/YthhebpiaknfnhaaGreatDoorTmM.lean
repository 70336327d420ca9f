import Derived.Test.YthhebpiaknfnhaaGreatDoorTmL
namespace Go.Abs.Sh
set_option linter.unusedVariables false
set_option linter.unusedSimpArgs false
set_option maxRecDepth 10000
def tmK (data:List Int) (lost:List Bool):((Int×(List Int)×Bool×Int×Int×Int×Bool×(List T_Item)×Int×(List Int)×(List Int)×Int×(List Int)×Bool×Int×Int×Int×Int))→Option (((Int×(List Int)×Bool×Int×Int×Int×Bool×(List T_Item)×Int×(List Int)×(List Int)×Int×(List Int)×Bool×Int×Int×Int×Int))⊕((Unit)⊕Bool)):=(fun ((s3114,s3115,s3116,s3117,s3118,s3119,s3120,s3121,s3122,s3123,s3124,s3125,s3126,s3127,s3128,s3129,s3130,s3131):Int×(List Int)×Bool×Int×Int×Int×Bool×(List T_Item)×Int×(List Int)×(List Int)×Int×(List Int)×Bool×Int×Int×Int×Int) =>
       cond ((decide (s3131<1200)))
        ((sender_Tick (T_Send.mk s3114 s3115 s3116 s3117 s3118 s3119 s3120)).bind fun v14 =>
        cond ((v14.2.2 != 0))
         (some (.inr (.inr (false))))
         (bindS (S:=(Int×(List Int)×Bool×Int×Int×Int×Bool×(List T_Item)×Int×(List Int)×(List Int)×Int×(List Int)×Bool×Int×Int×Int)) (A:=((Int×(List Int)×Bool×Int×Int×Int×Bool×(List T_Item)×Int×(List Int)×(List Int)×Int×(List Int)×Bool×Int×Int×Int×Int)⊕((Unit)⊕Bool)))
          (loopF (S:=(Int×(List Int)×Bool×Int×Int×Int×Bool×(List T_Item)×Int×(List Int)×(List Int)×Int×(List Int)×Bool×Int×Int×Int×Int)) (O:=(Int×(List Int)×Bool×Int×Int×Int×Bool×(List T_Item)×Int×(List Int)×(List Int)×Int×(List Int)×Bool×Int×Int×Int)⊕((Int×(List Int)×Bool×Int×Int×Int×Bool×(List T_Item)×Int×(List Int)×(List Int)×Int×(List Int)×Bool×Int×Int×Int×Int)⊕((Unit)⊕Bool))) (fun ((s5421,s5422,s5423,s5424,s5425,s5426,s5427,s5428,s5429,s5430,s5431,s5432,s5433,s5434,s5435,s5436,s5437,s5438):Int×(List Int)×Bool×Int×Int×Int×Bool×(List T_Item)×Int×(List Int)×(List Int)×Int×(List Int)×Bool×Int×Int×Int×Int) =>
           cond ((decide (s5438<(v14.2.1.length:Int))))
            (bindS (S:=Int×(List Int)×Bool×Int×Int×Int×Bool×(List T_Item)×Int×(List Int)×(List Int)×Int×(List Int)×Bool×Int×Int×Int) (A:=((Int×(List Int)×Bool×Int×Int×Int×Bool×(List T_Item)×Int×(List Int)×(List Int)×Int×(List Int)×Bool×Int×Int×Int×Int)⊕((Int×(List Int)×Bool×Int×Int×Int×Bool×(List T_Item)×Int×(List Int)×(List Int)×Int×(List Int)×Bool×Int×Int×Int)⊕((Int×(List Int)×Bool×Int×Int×Int×Bool×(List T_Item)×Int×(List Int)×(List Int)×Int×(List Int)×Bool×Int×Int×Int×Int)⊕((Unit)⊕Bool)))))
             ((some (IntKind.i64.wrap (s5437+1))).bind fun v17 =>
             bindS (S:=Bool) (A:=((Int×(List Int)×Bool×Int×Int×Int×Bool×(List T_Item)×Int×(List Int)×(List Int)×Int×(List Int)×Bool×Int×Int×Int)⊕((Int×(List Int)×Bool×Int×Int×Int×Bool×(List T_Item)×Int×(List Int)×(List Int)×Int×(List Int)×Bool×Int×Int×Int×Int)⊕((Int×(List Int)×Bool×Int×Int×Int×Bool×(List T_Item)×Int×(List Int)×(List Int)×Int×(List Int)×Bool×Int×Int×Int)⊕((Int×(List Int)×Bool×Int×Int×Int×Bool×(List T_Item)×Int×(List Int)×(List Int)×Int×(List Int)×Bool×Int×Int×Int×Int)⊕((Unit)⊕Bool))))))
              (cond ((decide (v17≤(lost.length:Int))))
               ((some (IntKind.i64.wrap (v17-1))).bind fun v18 =>
               (ixO v18 lost.length).bind fun v19 =>
               (getO lost v19).bind fun v20 =>
               some (.inl v20))
               (some (.inl false)))
              (fun (s6023:Bool) =>
               cond (s6023)
                (some (.inl (s5421,s5422,s5423,s5424,s5425,s5426,s5427,s5428,s5429,s5430,s5431,s5432,s5433,s5434,s5435,s5436,v17)))
                ((ixO s5438 v14.2.1.length).bind fun v26 =>
                (getO v14.2.1 v26).bind fun v27 =>
                (taker_Hear_sh (T_Spool.mk s5428 s5429 s5430 s5431 s5432 s5433) (T_Take.mk s5434 s5435 s5436) v27).bind fun v28 =>
                cond ((v28.2.2.2 != 0))
                 (some (.inl (s5421,s5422,s5423,s5424,s5425,s5426,s5427,s5428,s5429,s5430,s5431,s5432,s5433,s5434,s5435,s5436,v17)))
                 (bindS (S:=((List T_Item)×Int×(List Int)×(List Int)×Int×(List Int))) (A:=((Int×(List Int)×Bool×Int×Int×Int×Bool×(List T_Item)×Int×(List Int)×(List Int)×Int×(List Int)×Bool×Int×Int×Int)⊕((Int×(List Int)×Bool×Int×Int×Int×Bool×(List T_Item)×Int×(List Int)×(List Int)×Int×(List Int)×Bool×Int×Int×Int×Int)⊕((Int×(List Int)×Bool×Int×Int×Int×Bool×(List T_Item)×Int×(List Int)×(List Int)×Int×(List Int)×Bool×Int×Int×Int)⊕((Int×(List Int)×Bool×Int×Int×Int×Bool×(List T_Item)×Int×(List Int)×(List Int)×Int×(List Int)×Bool×Int×Int×Int×Int)⊕((Unit)⊕Bool))))))
                  (loopF (S:=((List T_Item)×Int×(List Int)×(List Int)×Int×(List Int)×Int)) (O:=((List T_Item)×Int×(List Int)×(List Int)×Int×(List Int))⊕((Int×(List Int)×Bool×Int×Int×Int×Bool×(List T_Item)×Int×(List Int)×(List Int)×Int×(List Int)×Bool×Int×Int×Int)⊕((Int×(List Int)×Bool×Int×Int×Int×Bool×(List T_Item)×Int×(List Int)×(List Int)×Int×(List Int)×Bool×Int×Int×Int×Int)⊕((Int×(List Int)×Bool×Int×Int×Int×Bool×(List T_Item)×Int×(List Int)×(List Int)×Int×(List Int)×Bool×Int×Int×Int)⊕((Int×(List Int)×Bool×Int×Int×Int×Bool×(List T_Item)×Int×(List Int)×(List Int)×Int×(List Int)×Bool×Int×Int×Int×Int)⊕((Unit)⊕Bool)))))) (fun ((s6040,s6041,s6042,s6043,s6044,s6045,s6046):(List T_Item)×Int×(List Int)×(List Int)×Int×(List Int)×Int) =>
                   cond ((decide (s6046<(v28.2.1.length:Int))))
                    ((ixO s6046 v28.2.1.length).bind fun v31 =>
                    (getO v28.2.1 v31).bind fun v32 =>
                    (spool_Add (T_Spool.mk s6040 s6041 s6042 s6043 s6044 s6045) ((T_Rec.mk v32.Kind ((T_Mail.mk (T_Path.mk v32.Mail.From.Null v32.Mail.From.Local v32.Mail.From.Domain) v32.Mail.To v32.Mail.Body v32.Mail.Quiet v32.Mail.Helo v32.Mail.At)) v32.Id v32.Ids v32.Origin v32.Number v32.Offset v32.Data))).bind fun v33 =>
                    cond ((v33.2 != 0))
                     (some (.inr (.inr (.inr (.inr (.inr (.inr (.inr (false)))))))))
                     ((some (IntKind.i64.wrap (s6046+1))).bind fun v35 =>
                     some (.inl (v33.1.Items,v33.1.Packs,v33.1.Sent,v33.1.Part,v33.1.Of,v33.1.Done,v35))))
                    (some (.inr (.inl (s6040,s6041,s6042,s6043,s6044,s6045)))))
                   BIG (s5428,s5429,s5430,s5431,s5432,s5433,0))
                  (fun ((s6049,s6050,s6051,s6052,s6053,s6054):(List T_Item)×Int×(List Int)×(List Int)×Int×(List Int)) =>
                   (taker_Whole (T_Spool.mk s6049 s6050 s6051 s6052 s6053 s6054) v28.1).bind fun v68 =>
                   cond (v68)
                    (bindS (S:=Bool) (A:=((Int×(List Int)×Bool×Int×Int×Int×Bool×(List T_Item)×Int×(List Int)×(List Int)×Int×(List Int)×Bool×Int×Int×Int)⊕((Int×(List Int)×Bool×Int×Int×Int×Bool×(List T_Item)×Int×(List Int)×(List Int)×Int×(List Int)×Bool×Int×Int×Int×Int)⊕((Int×(List Int)×Bool×Int×Int×Int×Bool×(List T_Item)×Int×(List Int)×(List Int)×Int×(List Int)×Bool×Int×Int×Int)⊕((Int×(List Int)×Bool×Int×Int×Int×Bool×(List T_Item)×Int×(List Int)×(List Int)×Int×(List Int)×Bool×Int×Int×Int×Int)⊕((Unit)⊕Bool))))))
                     ((wherrykeep_Bytes s6052 data).bind fun v70 =>
                     cond (v70)
                      ((wherrylaw22_wakes ).bind fun v71 =>
                      some (.inl v71))
                      (some (.inl false)))
                     (fun (s6064:Bool) =>
                      some (.inr (.inr (.inr (.inr (.inr (s6064))))))) some)
                    (bindS (S:=(Int×(List Int)×Bool×Int×Int×Int×Bool×Int)) (A:=((Int×(List Int)×Bool×Int×Int×Int×Bool×(List T_Item)×Int×(List Int)×(List Int)×Int×(List Int)×Bool×Int×Int×Int)⊕((Int×(List Int)×Bool×Int×Int×Int×Bool×(List T_Item)×Int×(List Int)×(List Int)×Int×(List Int)×Bool×Int×Int×Int×Int)⊕((Int×(List Int)×Bool×Int×Int×Int×Bool×(List T_Item)×Int×(List Int)×(List Int)×Int×(List Int)×Bool×Int×Int×Int)⊕((Int×(List Int)×Bool×Int×Int×Int×Bool×(List T_Item)×Int×(List Int)×(List Int)×Int×(List Int)×Bool×Int×Int×Int×Int)⊕((Unit)⊕Bool))))))
                     (loopF (S:=(Int×(List Int)×Bool×Int×Int×Int×Bool×Int×Int)) (O:=(Int×(List Int)×Bool×Int×Int×Int×Bool×Int)⊕((Int×(List Int)×Bool×Int×Int×Int×Bool×(List T_Item)×Int×(List Int)×(List Int)×Int×(List Int)×Bool×Int×Int×Int)⊕((Int×(List Int)×Bool×Int×Int×Int×Bool×(List T_Item)×Int×(List Int)×(List Int)×Int×(List Int)×Bool×Int×Int×Int×Int)⊕((Int×(List Int)×Bool×Int×Int×Int×Bool×(List T_Item)×Int×(List Int)×(List Int)×Int×(List Int)×Bool×Int×Int×Int)⊕((Int×(List Int)×Bool×Int×Int×Int×Bool×(List T_Item)×Int×(List Int)×(List Int)×Int×(List Int)×Bool×Int×Int×Int×Int)⊕((Unit)⊕Bool)))))) (fun ((s6125,s6126,s6127,s6128,s6129,s6130,s6131,s6132,s6133):Int×(List Int)×Bool×Int×Int×Int×Bool×Int×Int) =>
                      cond ((decide (s6133<(v28.2.2.1.length:Int))))
                       (bindS (S:=Int×(List Int)×Bool×Int×Int×Int×Bool×Int) (A:=((Int×(List Int)×Bool×Int×Int×Int×Bool×Int×Int)⊕((Int×(List Int)×Bool×Int×Int×Int×Bool×Int)⊕((Int×(List Int)×Bool×Int×Int×Int×Bool×(List T_Item)×Int×(List Int)×(List Int)×Int×(List Int)×Bool×Int×Int×Int)⊕((Int×(List Int)×Bool×Int×Int×Int×Bool×(List T_Item)×Int×(List Int)×(List Int)×Int×(List Int)×Bool×Int×Int×Int×Int)⊕((Int×(List Int)×Bool×Int×Int×Int×Bool×(List T_Item)×Int×(List Int)×(List Int)×Int×(List Int)×Bool×Int×Int×Int)⊕((Int×(List Int)×Bool×Int×Int×Int×Bool×(List T_Item)×Int×(List Int)×(List Int)×Int×(List Int)×Bool×Int×Int×Int×Int)⊕((Unit)⊕Bool))))))))
                        ((some (IntKind.i64.wrap (s6132+1))).bind fun v77 =>
                        bindS (S:=Bool) (A:=((Int×(List Int)×Bool×Int×Int×Int×Bool×Int)⊕((Int×(List Int)×Bool×Int×Int×Int×Bool×Int×Int)⊕((Int×(List Int)×Bool×Int×Int×Int×Bool×Int)⊕((Int×(List Int)×Bool×Int×Int×Int×Bool×(List T_Item)×Int×(List Int)×(List Int)×Int×(List Int)×Bool×Int×Int×Int)⊕((Int×(List Int)×Bool×Int×Int×Int×Bool×(List T_Item)×Int×(List Int)×(List Int)×Int×(List Int)×Bool×Int×Int×Int×Int)⊕((Int×(List Int)×Bool×Int×Int×Int×Bool×(List T_Item)×Int×(List Int)×(List Int)×Int×(List Int)×Bool×Int×Int×Int)⊕((Int×(List Int)×Bool×Int×Int×Int×Bool×(List T_Item)×Int×(List Int)×(List Int)×Int×(List Int)×Bool×Int×Int×Int×Int)⊕((Unit)⊕Bool)))))))))
                         (cond ((decide (v77≤(lost.length:Int))))
                          ((some (IntKind.i64.wrap (v77-1))).bind fun v78 =>
                          (ixO v78 lost.length).bind fun v79 =>
                          (getO lost v79).bind fun v80 =>
                          some (.inl v80))
                          (some (.inl false)))
                         (fun (s6190:Bool) =>
                          cond (s6190)
                           (some (.inl (s6125,s6126,s6127,s6128,s6129,s6130,s6131,v77)))
                           ((ixO s6133 v28.2.2.1.length).bind fun v86 =>
                           (getO v28.2.2.1 v86).bind fun v87 =>
                           (sender_Hear (T_Send.mk s6125 s6126 s6127 s6128 s6129 s6130 s6131) v87).bind fun v88 =>
                           cond ((v88.2==0))
                            (some (.inl (v88.1.Number,v88.1.Data,v88.1.Ready,v88.1.Base,v88.1.Next,v88.1.Wait,v88.1.Over,v77)))
                            (some (.inl (s6125,s6126,s6127,s6128,s6129,s6130,s6131,v77))))) some)
                        (fun ((s6179,s6180,s6181,s6182,s6183,s6184,s6185,s6186):Int×(List Int)×Bool×Int×Int×Int×Bool×Int) =>
                         (some (IntKind.i64.wrap (s6133+1))).bind fun v107 =>
                         some (.inl (s6179,s6180,s6181,s6182,s6183,s6184,s6185,s6186,v107))) some)
                       (some (.inr (.inl (s6125,s6126,s6127,s6128,s6129,s6130,s6131,s6132)))))
                      BIG (s5421,s5422,s5423,s5424,s5425,s5426,s5427,v17,0))
                     (fun ((s6158,s6159,s6160,s6161,s6162,s6163,s6164,s6165):Int×(List Int)×Bool×Int×Int×Int×Bool×Int) =>
                      some (.inl (s6158,s6159,s6160,s6161,s6162,s6163,s6164,s6049,s6050,s6051,s6052,s6053,s6054,v28.1.Open,v28.1.Number,v28.1.Total,s6165))) some)) some))) some)
             (fun ((s6003,s6004,s6005,s6006,s6007,s6008,s6009,s6010,s6011,s6012,s6013,s6014,s6015,s6016,s6017,s6018,s6019):Int×(List Int)×Bool×Int×Int×Int×Bool×(List T_Item)×Int×(List Int)×(List Int)×Int×(List Int)×Bool×Int×Int×Int) =>
              (some (IntKind.i64.wrap (s5438+1))).bind fun v405 =>
              some (.inl (s6003,s6004,s6005,s6006,s6007,s6008,s6009,s6010,s6011,s6012,s6013,s6014,s6015,s6016,s6017,s6018,s6019,v405))) some)
            (some (.inr (.inl (s5421,s5422,s5423,s5424,s5425,s5426,s5427,s5428,s5429,s5430,s5431,s5432,s5433,s5434,s5435,s5436,s5437)))))
           BIG (v14.1.Number,v14.1.Data,v14.1.Ready,v14.1.Base,v14.1.Next,v14.1.Wait,v14.1.Over,s3121,s3122,s3123,s3124,s3125,s3126,s3127,s3128,s3129,s3130,0))
          (fun ((s5806,s5807,s5808,s5809,s5810,s5811,s5812,s5813,s5814,s5815,s5816,s5817,s5818,s5819,s5820,s5821,s5822):Int×(List Int)×Bool×Int×Int×Int×Bool×(List T_Item)×Int×(List Int)×(List Int)×Int×(List Int)×Bool×Int×Int×Int) =>
           (some (IntKind.i64.wrap (s3131+1))).bind fun v1566 =>
           some (.inl (s5806,s5807,s5808,s5809,s5810,s5811,s5812,s5813,s5814,s5815,s5816,s5817,s5818,s5819,s5820,s5821,s5822,v1566))) some))
        (some (.inr (.inl ()))))
def tmF (data:List Int) (lost:List Bool) (out:List T_Frame):((Int×(List Int)×Bool×Int×Int×Int×Bool×(List T_Item)×Int×(List Int)×(List Int)×Int×(List Int)×Bool×Int×Int×Int×Int))→Option (((Int×(List Int)×Bool×Int×Int×Int×Bool×(List T_Item)×Int×(List Int)×(List Int)×Int×(List Int)×Bool×Int×Int×Int×Int))⊕((Int×(List Int)×Bool×Int×Int×Int×Bool×(List T_Item)×Int×(List Int)×(List Int)×Int×(List Int)×Bool×Int×Int×Int)⊕((Int×(List Int)×Bool×Int×Int×Int×Bool×(List T_Item)×Int×(List Int)×(List Int)×Int×(List Int)×Bool×Int×Int×Int×Int)⊕((Unit)⊕Bool)))):=(fun ((s5421,s5422,s5423,s5424,s5425,s5426,s5427,s5428,s5429,s5430,s5431,s5432,s5433,s5434,s5435,s5436,s5437,s5438):Int×(List Int)×Bool×Int×Int×Int×Bool×(List T_Item)×Int×(List Int)×(List Int)×Int×(List Int)×Bool×Int×Int×Int×Int) =>
           cond ((decide (s5438<(out.length:Int))))
            (bindS (S:=Int×(List Int)×Bool×Int×Int×Int×Bool×(List T_Item)×Int×(List Int)×(List Int)×Int×(List Int)×Bool×Int×Int×Int) (A:=((Int×(List Int)×Bool×Int×Int×Int×Bool×(List T_Item)×Int×(List Int)×(List Int)×Int×(List Int)×Bool×Int×Int×Int×Int)⊕((Int×(List Int)×Bool×Int×Int×Int×Bool×(List T_Item)×Int×(List Int)×(List Int)×Int×(List Int)×Bool×Int×Int×Int)⊕((Int×(List Int)×Bool×Int×Int×Int×Bool×(List T_Item)×Int×(List Int)×(List Int)×Int×(List Int)×Bool×Int×Int×Int×Int)⊕((Unit)⊕Bool)))))
             ((some (IntKind.i64.wrap (s5437+1))).bind fun v17 =>
             bindS (S:=Bool) (A:=((Int×(List Int)×Bool×Int×Int×Int×Bool×(List T_Item)×Int×(List Int)×(List Int)×Int×(List Int)×Bool×Int×Int×Int)⊕((Int×(List Int)×Bool×Int×Int×Int×Bool×(List T_Item)×Int×(List Int)×(List Int)×Int×(List Int)×Bool×Int×Int×Int×Int)⊕((Int×(List Int)×Bool×Int×Int×Int×Bool×(List T_Item)×Int×(List Int)×(List Int)×Int×(List Int)×Bool×Int×Int×Int)⊕((Int×(List Int)×Bool×Int×Int×Int×Bool×(List T_Item)×Int×(List Int)×(List Int)×Int×(List Int)×Bool×Int×Int×Int×Int)⊕((Unit)⊕Bool))))))
              (cond ((decide (v17≤(lost.length:Int))))
               ((some (IntKind.i64.wrap (v17-1))).bind fun v18 =>
               (ixO v18 lost.length).bind fun v19 =>
               (getO lost v19).bind fun v20 =>
               some (.inl v20))
               (some (.inl false)))
              (fun (s6023:Bool) =>
               cond (s6023)
                (some (.inl (s5421,s5422,s5423,s5424,s5425,s5426,s5427,s5428,s5429,s5430,s5431,s5432,s5433,s5434,s5435,s5436,v17)))
                ((ixO s5438 out.length).bind fun v26 =>
                (getO out v26).bind fun v27 =>
                (taker_Hear_sh (T_Spool.mk s5428 s5429 s5430 s5431 s5432 s5433) (T_Take.mk s5434 s5435 s5436) v27).bind fun v28 =>
                cond ((v28.2.2.2 != 0))
                 (some (.inl (s5421,s5422,s5423,s5424,s5425,s5426,s5427,s5428,s5429,s5430,s5431,s5432,s5433,s5434,s5435,s5436,v17)))
                 (bindS (S:=((List T_Item)×Int×(List Int)×(List Int)×Int×(List Int))) (A:=((Int×(List Int)×Bool×Int×Int×Int×Bool×(List T_Item)×Int×(List Int)×(List Int)×Int×(List Int)×Bool×Int×Int×Int)⊕((Int×(List Int)×Bool×Int×Int×Int×Bool×(List T_Item)×Int×(List Int)×(List Int)×Int×(List Int)×Bool×Int×Int×Int×Int)⊕((Int×(List Int)×Bool×Int×Int×Int×Bool×(List T_Item)×Int×(List Int)×(List Int)×Int×(List Int)×Bool×Int×Int×Int)⊕((Int×(List Int)×Bool×Int×Int×Int×Bool×(List T_Item)×Int×(List Int)×(List Int)×Int×(List Int)×Bool×Int×Int×Int×Int)⊕((Unit)⊕Bool))))))
                  (loopF (S:=((List T_Item)×Int×(List Int)×(List Int)×Int×(List Int)×Int)) (O:=((List T_Item)×Int×(List Int)×(List Int)×Int×(List Int))⊕((Int×(List Int)×Bool×Int×Int×Int×Bool×(List T_Item)×Int×(List Int)×(List Int)×Int×(List Int)×Bool×Int×Int×Int)⊕((Int×(List Int)×Bool×Int×Int×Int×Bool×(List T_Item)×Int×(List Int)×(List Int)×Int×(List Int)×Bool×Int×Int×Int×Int)⊕((Int×(List Int)×Bool×Int×Int×Int×Bool×(List T_Item)×Int×(List Int)×(List Int)×Int×(List Int)×Bool×Int×Int×Int)⊕((Int×(List Int)×Bool×Int×Int×Int×Bool×(List T_Item)×Int×(List Int)×(List Int)×Int×(List Int)×Bool×Int×Int×Int×Int)⊕((Unit)⊕Bool)))))) (fun ((s6040,s6041,s6042,s6043,s6044,s6045,s6046):(List T_Item)×Int×(List Int)×(List Int)×Int×(List Int)×Int) =>
                   cond ((decide (s6046<(v28.2.1.length:Int))))
                    ((ixO s6046 v28.2.1.length).bind fun v31 =>
                    (getO v28.2.1 v31).bind fun v32 =>
                    (spool_Add (T_Spool.mk s6040 s6041 s6042 s6043 s6044 s6045) ((T_Rec.mk v32.Kind ((T_Mail.mk (T_Path.mk v32.Mail.From.Null v32.Mail.From.Local v32.Mail.From.Domain) v32.Mail.To v32.Mail.Body v32.Mail.Quiet v32.Mail.Helo v32.Mail.At)) v32.Id v32.Ids v32.Origin v32.Number v32.Offset v32.Data))).bind fun v33 =>
                    cond ((v33.2 != 0))
                     (some (.inr (.inr (.inr (.inr (.inr (.inr (.inr (false)))))))))
                     ((some (IntKind.i64.wrap (s6046+1))).bind fun v35 =>
                     some (.inl (v33.1.Items,v33.1.Packs,v33.1.Sent,v33.1.Part,v33.1.Of,v33.1.Done,v35))))
                    (some (.inr (.inl (s6040,s6041,s6042,s6043,s6044,s6045)))))
                   BIG (s5428,s5429,s5430,s5431,s5432,s5433,0))
                  (fun ((s6049,s6050,s6051,s6052,s6053,s6054):(List T_Item)×Int×(List Int)×(List Int)×Int×(List Int)) =>
                   (taker_Whole (T_Spool.mk s6049 s6050 s6051 s6052 s6053 s6054) v28.1).bind fun v68 =>
                   cond (v68)
                    (bindS (S:=Bool) (A:=((Int×(List Int)×Bool×Int×Int×Int×Bool×(List T_Item)×Int×(List Int)×(List Int)×Int×(List Int)×Bool×Int×Int×Int)⊕((Int×(List Int)×Bool×Int×Int×Int×Bool×(List T_Item)×Int×(List Int)×(List Int)×Int×(List Int)×Bool×Int×Int×Int×Int)⊕((Int×(List Int)×Bool×Int×Int×Int×Bool×(List T_Item)×Int×(List Int)×(List Int)×Int×(List Int)×Bool×Int×Int×Int)⊕((Int×(List Int)×Bool×Int×Int×Int×Bool×(List T_Item)×Int×(List Int)×(List Int)×Int×(List Int)×Bool×Int×Int×Int×Int)⊕((Unit)⊕Bool))))))
                     ((wherrykeep_Bytes s6052 data).bind fun v70 =>
                     cond (v70)
                      ((wherrylaw22_wakes ).bind fun v71 =>
                      some (.inl v71))
                      (some (.inl false)))
                     (fun (s6064:Bool) =>
                      some (.inr (.inr (.inr (.inr (.inr (s6064))))))) some)
                    (bindS (S:=(Int×(List Int)×Bool×Int×Int×Int×Bool×Int)) (A:=((Int×(List Int)×Bool×Int×Int×Int×Bool×(List T_Item)×Int×(List Int)×(List Int)×Int×(List Int)×Bool×Int×Int×Int)⊕((Int×(List Int)×Bool×Int×Int×Int×Bool×(List T_Item)×Int×(List Int)×(List Int)×Int×(List Int)×Bool×Int×Int×Int×Int)⊕((Int×(List Int)×Bool×Int×Int×Int×Bool×(List T_Item)×Int×(List Int)×(List Int)×Int×(List Int)×Bool×Int×Int×Int)⊕((Int×(List Int)×Bool×Int×Int×Int×Bool×(List T_Item)×Int×(List Int)×(List Int)×Int×(List Int)×Bool×Int×Int×Int×Int)⊕((Unit)⊕Bool))))))
                     (loopF (S:=(Int×(List Int)×Bool×Int×Int×Int×Bool×Int×Int)) (O:=(Int×(List Int)×Bool×Int×Int×Int×Bool×Int)⊕((Int×(List Int)×Bool×Int×Int×Int×Bool×(List T_Item)×Int×(List Int)×(List Int)×Int×(List Int)×Bool×Int×Int×Int)⊕((Int×(List Int)×Bool×Int×Int×Int×Bool×(List T_Item)×Int×(List Int)×(List Int)×Int×(List Int)×Bool×Int×Int×Int×Int)⊕((Int×(List Int)×Bool×Int×Int×Int×Bool×(List T_Item)×Int×(List Int)×(List Int)×Int×(List Int)×Bool×Int×Int×Int)⊕((Int×(List Int)×Bool×Int×Int×Int×Bool×(List T_Item)×Int×(List Int)×(List Int)×Int×(List Int)×Bool×Int×Int×Int×Int)⊕((Unit)⊕Bool)))))) (fun ((s6125,s6126,s6127,s6128,s6129,s6130,s6131,s6132,s6133):Int×(List Int)×Bool×Int×Int×Int×Bool×Int×Int) =>
                      cond ((decide (s6133<(v28.2.2.1.length:Int))))
                       (bindS (S:=Int×(List Int)×Bool×Int×Int×Int×Bool×Int) (A:=((Int×(List Int)×Bool×Int×Int×Int×Bool×Int×Int)⊕((Int×(List Int)×Bool×Int×Int×Int×Bool×Int)⊕((Int×(List Int)×Bool×Int×Int×Int×Bool×(List T_Item)×Int×(List Int)×(List Int)×Int×(List Int)×Bool×Int×Int×Int)⊕((Int×(List Int)×Bool×Int×Int×Int×Bool×(List T_Item)×Int×(List Int)×(List Int)×Int×(List Int)×Bool×Int×Int×Int×Int)⊕((Int×(List Int)×Bool×Int×Int×Int×Bool×(List T_Item)×Int×(List Int)×(List Int)×Int×(List Int)×Bool×Int×Int×Int)⊕((Int×(List Int)×Bool×Int×Int×Int×Bool×(List T_Item)×Int×(List Int)×(List Int)×Int×(List Int)×Bool×Int×Int×Int×Int)⊕((Unit)⊕Bool))))))))
                        ((some (IntKind.i64.wrap (s6132+1))).bind fun v77 =>
                        bindS (S:=Bool) (A:=((Int×(List Int)×Bool×Int×Int×Int×Bool×Int)⊕((Int×(List Int)×Bool×Int×Int×Int×Bool×Int×Int)⊕((Int×(List Int)×Bool×Int×Int×Int×Bool×Int)⊕((Int×(List Int)×Bool×Int×Int×Int×Bool×(List T_Item)×Int×(List Int)×(List Int)×Int×(List Int)×Bool×Int×Int×Int)⊕((Int×(List Int)×Bool×Int×Int×Int×Bool×(List T_Item)×Int×(List Int)×(List Int)×Int×(List Int)×Bool×Int×Int×Int×Int)⊕((Int×(List Int)×Bool×Int×Int×Int×Bool×(List T_Item)×Int×(List Int)×(List Int)×Int×(List Int)×Bool×Int×Int×Int)⊕((Int×(List Int)×Bool×Int×Int×Int×Bool×(List T_Item)×Int×(List Int)×(List Int)×Int×(List Int)×Bool×Int×Int×Int×Int)⊕((Unit)⊕Bool)))))))))
                         (cond ((decide (v77≤(lost.length:Int))))
                          ((some (IntKind.i64.wrap (v77-1))).bind fun v78 =>
                          (ixO v78 lost.length).bind fun v79 =>
                          (getO lost v79).bind fun v80 =>
                          some (.inl v80))
                          (some (.inl false)))
                         (fun (s6190:Bool) =>
                          cond (s6190)
                           (some (.inl (s6125,s6126,s6127,s6128,s6129,s6130,s6131,v77)))
                           ((ixO s6133 v28.2.2.1.length).bind fun v86 =>
                           (getO v28.2.2.1 v86).bind fun v87 =>
                           (sender_Hear (T_Send.mk s6125 s6126 s6127 s6128 s6129 s6130 s6131) v87).bind fun v88 =>
                           cond ((v88.2==0))
                            (some (.inl (v88.1.Number,v88.1.Data,v88.1.Ready,v88.1.Base,v88.1.Next,v88.1.Wait,v88.1.Over,v77)))
                            (some (.inl (s6125,s6126,s6127,s6128,s6129,s6130,s6131,v77))))) some)
                        (fun ((s6179,s6180,s6181,s6182,s6183,s6184,s6185,s6186):Int×(List Int)×Bool×Int×Int×Int×Bool×Int) =>
                         (some (IntKind.i64.wrap (s6133+1))).bind fun v107 =>
                         some (.inl (s6179,s6180,s6181,s6182,s6183,s6184,s6185,s6186,v107))) some)
                       (some (.inr (.inl (s6125,s6126,s6127,s6128,s6129,s6130,s6131,s6132)))))
                      BIG (s5421,s5422,s5423,s5424,s5425,s5426,s5427,v17,0))
                     (fun ((s6158,s6159,s6160,s6161,s6162,s6163,s6164,s6165):Int×(List Int)×Bool×Int×Int×Int×Bool×Int) =>
                      some (.inl (s6158,s6159,s6160,s6161,s6162,s6163,s6164,s6049,s6050,s6051,s6052,s6053,s6054,v28.1.Open,v28.1.Number,v28.1.Total,s6165))) some)) some))) some)
             (fun ((s6003,s6004,s6005,s6006,s6007,s6008,s6009,s6010,s6011,s6012,s6013,s6014,s6015,s6016,s6017,s6018,s6019):Int×(List Int)×Bool×Int×Int×Int×Bool×(List T_Item)×Int×(List Int)×(List Int)×Int×(List Int)×Bool×Int×Int×Int) =>
              (some (IntKind.i64.wrap (s5438+1))).bind fun v405 =>
              some (.inl (s6003,s6004,s6005,s6006,s6007,s6008,s6009,s6010,s6011,s6012,s6013,s6014,s6015,s6016,s6017,s6018,s6019,v405))) some)
            (some (.inr (.inl (s5421,s5422,s5423,s5424,s5425,s5426,s5427,s5428,s5429,s5430,s5431,s5432,s5433,s5434,s5435,s5436,s5437)))))
def tmR (recs:List T_Rec):(((List T_Item)×Int×(List Int)×(List Int)×Int×(List Int)×Int))→Option ((((List T_Item)×Int×(List Int)×(List Int)×Int×(List Int)×Int))⊕(((List T_Item)×Int×(List Int)×(List Int)×Int×(List Int))⊕((Int×(List Int)×Bool×Int×Int×Int×Bool×(List T_Item)×Int×(List Int)×(List Int)×Int×(List Int)×Bool×Int×Int×Int)⊕((Int×(List Int)×Bool×Int×Int×Int×Bool×(List T_Item)×Int×(List Int)×(List Int)×Int×(List Int)×Bool×Int×Int×Int×Int)⊕((Int×(List Int)×Bool×Int×Int×Int×Bool×(List T_Item)×Int×(List Int)×(List Int)×Int×(List Int)×Bool×Int×Int×Int)⊕((Int×(List Int)×Bool×Int×Int×Int×Bool×(List T_Item)×Int×(List Int)×(List Int)×Int×(List Int)×Bool×Int×Int×Int×Int)⊕((Unit)⊕Bool))))))):=(fun ((s6040,s6041,s6042,s6043,s6044,s6045,s6046):(List T_Item)×Int×(List Int)×(List Int)×Int×(List Int)×Int) =>
                   cond ((decide (s6046<(recs.length:Int))))
                    ((ixO s6046 recs.length).bind fun v31 =>
                    (getO recs v31).bind fun v32 =>
                    (spool_Add (T_Spool.mk s6040 s6041 s6042 s6043 s6044 s6045) ((T_Rec.mk v32.Kind ((T_Mail.mk (T_Path.mk v32.Mail.From.Null v32.Mail.From.Local v32.Mail.From.Domain) v32.Mail.To v32.Mail.Body v32.Mail.Quiet v32.Mail.Helo v32.Mail.At)) v32.Id v32.Ids v32.Origin v32.Number v32.Offset v32.Data))).bind fun v33 =>
                    cond ((v33.2 != 0))
                     (some (.inr (.inr (.inr (.inr (.inr (.inr (.inr (false)))))))))
                     ((some (IntKind.i64.wrap (s6046+1))).bind fun v35 =>
                     some (.inl (v33.1.Items,v33.1.Packs,v33.1.Sent,v33.1.Part,v33.1.Of,v33.1.Done,v35))))
                    (some (.inr (.inl (s6040,s6041,s6042,s6043,s6044,s6045)))))
def tmB (lost:List Bool) (back:List T_Frame):((Int×(List Int)×Bool×Int×Int×Int×Bool×Int×Int))→Option (((Int×(List Int)×Bool×Int×Int×Int×Bool×Int×Int))⊕((Int×(List Int)×Bool×Int×Int×Int×Bool×Int)⊕((Int×(List Int)×Bool×Int×Int×Int×Bool×(List T_Item)×Int×(List Int)×(List Int)×Int×(List Int)×Bool×Int×Int×Int)⊕((Int×(List Int)×Bool×Int×Int×Int×Bool×(List T_Item)×Int×(List Int)×(List Int)×Int×(List Int)×Bool×Int×Int×Int×Int)⊕((Int×(List Int)×Bool×Int×Int×Int×Bool×(List T_Item)×Int×(List Int)×(List Int)×Int×(List Int)×Bool×Int×Int×Int)⊕((Int×(List Int)×Bool×Int×Int×Int×Bool×(List T_Item)×Int×(List Int)×(List Int)×Int×(List Int)×Bool×Int×Int×Int×Int)⊕((Unit)⊕Bool))))))):=(fun ((s6125,s6126,s6127,s6128,s6129,s6130,s6131,s6132,s6133):Int×(List Int)×Bool×Int×Int×Int×Bool×Int×Int) =>
                      cond ((decide (s6133<(back.length:Int))))
                       (bindS (S:=Int×(List Int)×Bool×Int×Int×Int×Bool×Int) (A:=((Int×(List Int)×Bool×Int×Int×Int×Bool×Int×Int)⊕((Int×(List Int)×Bool×Int×Int×Int×Bool×Int)⊕((Int×(List Int)×Bool×Int×Int×Int×Bool×(List T_Item)×Int×(List Int)×(List Int)×Int×(List Int)×Bool×Int×Int×Int)⊕((Int×(List Int)×Bool×Int×Int×Int×Bool×(List T_Item)×Int×(List Int)×(List Int)×Int×(List Int)×Bool×Int×Int×Int×Int)⊕((Int×(List Int)×Bool×Int×Int×Int×Bool×(List T_Item)×Int×(List Int)×(List Int)×Int×(List Int)×Bool×Int×Int×Int)⊕((Int×(List Int)×Bool×Int×Int×Int×Bool×(List T_Item)×Int×(List Int)×(List Int)×Int×(List Int)×Bool×Int×Int×Int×Int)⊕((Unit)⊕Bool))))))))
                        ((some (IntKind.i64.wrap (s6132+1))).bind fun v77 =>
                        bindS (S:=Bool) (A:=((Int×(List Int)×Bool×Int×Int×Int×Bool×Int)⊕((Int×(List Int)×Bool×Int×Int×Int×Bool×Int×Int)⊕((Int×(List Int)×Bool×Int×Int×Int×Bool×Int)⊕((Int×(List Int)×Bool×Int×Int×Int×Bool×(List T_Item)×Int×(List Int)×(List Int)×Int×(List Int)×Bool×Int×Int×Int)⊕((Int×(List Int)×Bool×Int×Int×Int×Bool×(List T_Item)×Int×(List Int)×(List Int)×Int×(List Int)×Bool×Int×Int×Int×Int)⊕((Int×(List Int)×Bool×Int×Int×Int×Bool×(List T_Item)×Int×(List Int)×(List Int)×Int×(List Int)×Bool×Int×Int×Int)⊕((Int×(List Int)×Bool×Int×Int×Int×Bool×(List T_Item)×Int×(List Int)×(List Int)×Int×(List Int)×Bool×Int×Int×Int×Int)⊕((Unit)⊕Bool)))))))))
                         (cond ((decide (v77≤(lost.length:Int))))
                          ((some (IntKind.i64.wrap (v77-1))).bind fun v78 =>
                          (ixO v78 lost.length).bind fun v79 =>
                          (getO lost v79).bind fun v80 =>
                          some (.inl v80))
                          (some (.inl false)))
                         (fun (s6190:Bool) =>
                          cond (s6190)
                           (some (.inl (s6125,s6126,s6127,s6128,s6129,s6130,s6131,v77)))
                           ((ixO s6133 back.length).bind fun v86 =>
                           (getO back v86).bind fun v87 =>
                           (sender_Hear (T_Send.mk s6125 s6126 s6127 s6128 s6129 s6130 s6131) v87).bind fun v88 =>
                           cond ((v88.2==0))
                            (some (.inl (v88.1.Number,v88.1.Data,v88.1.Ready,v88.1.Base,v88.1.Next,v88.1.Wait,v88.1.Over,v77)))
                            (some (.inl (s6125,s6126,s6127,s6128,s6129,s6130,s6131,v77))))) some)
                        (fun ((s6179,s6180,s6181,s6182,s6183,s6184,s6185,s6186):Int×(List Int)×Bool×Int×Int×Int×Bool×Int) =>
                         (some (IntKind.i64.wrap (s6133+1))).bind fun v107 =>
                         some (.inl (s6179,s6180,s6181,s6182,s6183,s6184,s6185,s6186,v107))) some)
                       (some (.inr (.inl (s6125,s6126,s6127,s6128,s6129,s6130,s6131,s6132)))))
def sS (N:Int) (D:List Int) (x:Y):T_Send:=T_Send.mk N D x.rdy (x.b:Int) (x.n:Int) (x.w:Int) false
def spY (N:Int) (D:List Int) (m:Nat):T_Spool:=T_Spool.mk [] 0 [] (D.take (48 * m)) (if m=0 then-1 else N) []
def tkY (N:Int) (D:List Int) (o:Bool):T_Take:=cond o (T_Take.mk true N (D.length:Int)) (T_Take.mk false 0 0)
def t17 (N:Int) (D:List Int) (x:Y):Int×(List Int)×Bool×Int×Int×Int×Bool×(List T_Item)×Int×(List Int)×(List Int)×Int×(List Int)×Bool×Int×Int×Int :=
 (N,D,x.rdy,(x.b:Int),(x.n:Int),(x.w:Int),false,[],0,[],D.take (48 * x.m),(if x.m=0 then-1 else N),[],(tkY N D x.op).Open,(tkY N D x.op).Number,(tkY N D x.op).Total,(x.a:Int))
def t18 (N:Int) (D:List Int) (x:Y) (k:Nat):Int×(List Int)×Bool×Int×Int×Int×Bool×(List T_Item)×Int×(List Int)×(List Int)×Int×(List Int)×Bool×Int×Int×Int×Int :=
 (N,D,x.rdy,(x.b:Int),(x.n:Int),(x.w:Int),false,[],0,[],D.take (48 * x.m),(if x.m=0 then-1 else N),[],(tkY N D x.op).Open,(tkY N D x.op).Number,(tkY N D x.op).Total,(x.a:Int),(k:Int))
def pfY (N:Int) (D:List Int) (i:Nat):T_Frame:=T_Frame.mk 3 N ((48 * i:Nat):Int) ((i % 8:Nat):Int) ((D.drop (48 * i)).take 48)
def hfY (N:Int) (D:List Int):T_Frame:=T_Frame.mk 1 N (D.length:Int) 0 []
structure Lt (N:Int) (D:List Int) (P:Nat):Prop where
 n1:1≤N
 n2:N≤65535
 d1:1≤D.length
 d2:D.length≤1200
 hP:P=(D.length+47) / 48
theorem rt_sS {N:Int} {D:List Int} {P:Nat} {x:Y} (hl:Lt N D P) (h:OkY P x):Rt (sS N D x):=by
 have:=hl.hP; have:=h.mP; have:=h.w3; have:=hl.d1; have:=hl.d2
 have hp:pcs (sS N D x)=(P:Int):=by unfold pcs sS; dsimp only; omega
 have hb:x.b≤P∧x.b≤x.n∧x.n≤x.b+7∧x.n≤P:=by
  by_cases hr:x.rdy=true
  ·have:=h.r1 hr; omega
  ·have:=h.r0 (by simpa using hr); omega
 refine ⟨hl.n1,hl.n2,hl.d1,by unfold sS; dsimp only; omega,by unfold sS; dsimp only; omega,by rw [hp]; unfold sS; dsimp only; omega,by unfold sS; dsimp only; omega,by unfold sS; dsimp only; omega,by rw [hp]; unfold sS; dsimp only; omega,by unfold sS; dsimp only; omega,by unfold sS; dsimp only; omega,?_⟩
 by_cases hr:x.rdy=true
 ·exact .inl hr
 ·have:=h.r0 (by simpa using hr)
  exact .inr ⟨by unfold sS; dsimp only; omega,by unfold sS; dsimp only; omega⟩
theorem lost_t {A:Type} {L:List Bool} (hL:L.length≤200) {a:Nat} (ha:1≤a) (ha2:a<1000000) :
  ((cond ((decide ((a:Int)≤(L.length:Int)))) ((some (IntKind.i64.wrap ((a:Int)-1))).bind fun v18=>(ixO v18 L.length).bind fun v19=>(getO L v19).bind fun v20=>some (.inl v20)) (some (.inl false)):Option (Bool⊕A)))=some (.inl (lst L a)):=by
 by_cases h:a≤L.length
 ·refine cnd_t (decide_eq_true (by omega)) (bnd (x:=((a-1:Nat):Int)) ?_ (bnd (ixO_of (by omega)) (bnd (x:=lst L a) ?_ rfl)))
  ·rw [wrap_i64 (by omega) (by omega)]; congr 1; omega
  ·unfold lst getO
   rw [List.getD_eq_getElem?_getD,List.getElem?_eq_getElem (by omega)]
   rfl
 ·exact cnd_f (decide_eq_false (by omega)) (by rw [lst_ge (by omega)])
theorem far_sp {N:Int} {D:List Int} {P m:Nat} (hl:Lt N D P) (hm:m<P):farI (spY N D m) N=((48 * m:Nat):Int):=by
 have:=hl.hP; have:=hl.n1
 unfold farI spY
 dsimp only
 by_cases h0:m=0
 ·rw [if_pos h0,if_neg (by omega)]; omega
 ·rw [if_neg h0,if_pos rfl,List.length_take]; omega
def zMY:T_Mail:=(T_Mail.mk ((T_Path.mk false (⟨#[]⟩:ByteArray) (⟨#[]⟩:ByteArray))) [] [] false (⟨#[]⟩:ByteArray) 0)
def ckY (num off:Int) (d:List Int):T_Rec:=T_Rec.mk 5 zMY 0 [] 0 num off d
theorem ckY_er (num off:Int) (d:List Int):er (ckY num off d)=true:=by
 have h:erO (ckY num off d)=some true:=by kernel_rfl
 simp only [er,h,Option.getD_some]
theorem inv_sp {N:Int} {D:List Int} {P:Nat} (hl:Lt N D P) (m:Nat):Inv 100 (spY N D m) :=
 ⟨by omega,by simp [spY],fun i h=>absurd h (by simp [spY]),by simp [spY],⟨by simp [spY],by simp [spY]⟩,by simp [spY],by have:=hl.d2; simp [spY]; omega,by simp [spY],List.Pairwise.nil⟩
theorem add_sp {N:Int} {D:List Int} {P m:Nat} (hl:Lt N D P) (hm:m<P) :
  spool_Add (spY N D m) (ckY N ((48 * m:Nat):Int) ((D.drop (48 * m)).take 48))=some (spY N D (m+1),0):=by
 have hP:=hl.hP; have h1:=hl.n1; have h2:=hl.n2; have d2:=hl.d2
 have hdl:((D.drop (48 * m)).take 48).length=min 48 (D.length-48 * m):=by simp
 have hr:Rok (ckY N ((48 * m:Nat):Int) ((D.drop (48 * m)).take 48)):=⟨⟨by show ((D.drop (48 * m)).take 48).length≤600; omega,by simp [ckY],by simp [ckY,zMY],by simp [ckY,zMY,mW,psum,ByteArray.size]⟩,fun x hx=>by simp [ckY,zMY] at hx⟩
 have hok:okS (spY N D m) (ckY N ((48 * m:Nat):Int) ((D.drop (48 * m)).take 48))=true:=by
  unfold okS
  rw [ckY_er,Bool.true_and,if_neg (by simp [ckY]),if_neg (by simp [ckY]),if_neg (by simp [ckY]),if_neg (by simp [ckY]),if_pos (by simp [ckY])]
  have ho:opn (spY N D m) N=true:=by
   unfold opn spY
   rw [decide_eq_true ⟨h1,h2⟩]; simp
  have hc:ckB (spY N D m) (ckY N ((48 * m:Nat):Int) ((D.drop (48 * m)).take 48))=true:=by
   unfold ckB
   rw [decide_eq_true (by show 1≤((D.drop (48 * m)).take 48).length∧((D.drop (48 * m)).take 48).length≤48; omega),Bool.true_and]
   by_cases h0:m=0
   ·rw [decide_eq_true (by show ((48 * m:Nat):Int)=0; omega:(ckY N ((48 * m:Nat):Int) ((D.drop (48 * m)).take 48)).Offset=0)]; rfl
   ·have e:(spY N D m).Of=N∧((48 * m:Nat):Int)=((spY N D m).Part.length:Int)∧(spY N D m).Part.length+((D.drop (48 * m)).take 48).length≤5000:=by
     have e1:(spY N D m).Part.length=48 * m:=by show (D.take (48 * m)).length=48 * m; rw [List.length_take]; omega
     refine ⟨by show (if m=0 then-1 else N)=N; rw [if_neg h0],by rw [e1],by rw [e1]; omega⟩
    rw [(decide_eq_true e:decide ((spY N D m).Of=(ckY N ((48 * m:Nat):Int) ((D.drop (48 * m)).take 48)).Number∧(ckY N ((48 * m:Nat):Int) ((D.drop (48 * m)).take 48)).Offset=((spY N D m).Part.length:Int)∧(spY N D m).Part.length+(ckY N ((48 * m:Nat):Int) ((D.drop (48 * m)).take 48)).Data.length≤5000)=true)]
    exact Bool.or_true _
  show (opn (spY N D m) N&&ckB (spY N D m) (ckY N ((48 * m:Nat):Int) ((D.drop (48 * m)).take 48)))=true
  rw [ho,hc]; rfl
 rw [add_eq (inv_sp hl m) hr,if_pos hok,eff5 rfl]
 have e1:(if (ckY N ((48 * m:Nat):Int) ((D.drop (48 * m)).take 48)).Offset=0 then (ckY N ((48 * m:Nat):Int) ((D.drop (48 * m)).take 48)).Data else (spY N D m).Part++(ckY N ((48 * m:Nat):Int) ((D.drop (48 * m)).take 48)).Data)=D.take (48 * (m+1)):=by
  show (if ((48 * m:Nat):Int)=0 then (D.drop (48 * m)).take 48 else D.take (48 * m)++(D.drop (48 * m)).take 48)=D.take (48 * (m+1))
  by_cases h0:m=0
  ·subst h0; rw [if_pos (by omega)]; rfl
  ·rw [if_neg (by omega),take48]
 have e2:(if (ckY N ((48 * m:Nat):Int) ((D.drop (48 * m)).take 48)).Offset=0 then (ckY N ((48 * m:Nat):Int) ((D.drop (48 * m)).take 48)).Number else (spY N D m).Of)=(if m+1=0 then-1 else N):=by
  show (if ((48 * m:Nat):Int)=0 then N else (if m=0 then-1 else N))=(if m+1=0 then-1 else N)
  rw [if_neg (by omega:¬ m+1=0)]
  by_cases h0:m=0
  ·rw [if_pos (by omega)]
  ·rw [if_neg (by omega),if_neg h0]
 rw [e1,e2]
 rfl
theorem whole_sp {N:Int} {D:List Int} {P m:Nat} (hl:Lt N D P) (hm:m≤P):taker_Whole (spY N D m) (T_Take.mk true N (D.length:Int))=some (decide (m=P)):=by
 have hP:=hl.hP; have h1:=hl.n1; have d1:=hl.d1
 unfold taker_Whole
 by_cases h0:m=0
 ·rw [decide_eq_false (by omega)]
  exact bndL (s:=false) (cnd_t rfl (cnd_f (by show ((if m=0 then-1 else N)==N)=false; rw [if_pos h0]; simp; omega) rfl)) rfl
 ·refine bndL (s:=decide (m=P)) (cnd_t rfl (cnd_t (by show ((if m=0 then-1 else N)==N)=true; rw [if_neg h0]; simp) (inl_of ?_))) rfl
  show (((D.take (48 * m)).length:Int)==(D.length:Int))=decide (m=P)
  rw [Bool.eq_iff_iff,beq_iff_eq,decide_eq_true_eq,List.length_take]
  omega
theorem good_pf {N:Int} {D:List Int} {P i:Nat} (hl:Lt N D P) (hi:i<P):frame_Check (pfY N D i)=some 0:=by
 have hP:=hl.hP; have h1:=hl.n1; have h2:=hl.n2; have d2:=hl.d2
 have hdl:((D.drop (48 * i)).take 48).length=min 48 (D.length-48 * i):=by simp
 have hg:good (pfY N D i)=true:=by
  unfold good numIn offIn seqIn pfY
  dsimp only
  rw [hdl]
  simp
  omega
 rw [fcheck_eq,hg]; rfl
theorem hear_pf {N:Int} {D:List Int} {P i m:Nat} (hl:Lt N D P) (hi:i<P) (hm:m<P):taker_Hear_sh (spY N D m) (T_Take.mk true N (D.length:Int)) (pfY N D i) =
  some (if i=m then (T_Take.mk true N (D.length:Int),[ckY N ((48 * m:Nat):Int) ((D.drop (48 * m)).take 48)],[T_Frame.mk 4 N 0 (((m+1) % 8:Nat):Int) []],0) else (T_Take.mk true N (D.length:Int),[],[T_Frame.mk 4 N 0 ((m % 8:Nat):Int) []],0)):=by
 have hP:=hl.hP; have h1:=hl.n1; have h2:=hl.n2; have d2:=hl.d2
 have hq:quoO .i64 ((48 * m:Nat):Int) 48=some ((m:Nat):Int):=(quo_nat (48 * m) 48 (by omega) (by omega)).trans (by congr 2; omega)
 have hne:(((48 * m:Nat):Int)==(D.length:Int))=false:=by simp; omega
 have hc:taker_chunk_sh ((48 * m:Nat):Int) (T_Take.mk true N (D.length:Int)) (pfY N D i)=some (if i=m then (T_taker_result.mk (T_Take.mk true N (D.length:Int)) [ckY N ((48 * m:Nat):Int) ((D.drop (48 * m)).take 48)] [T_Frame.mk 4 N 0 (((m+1) % 8:Nat):Int) []],0) else (T_taker_result.mk (T_Take.mk true N (D.length:Int)) [] [T_Frame.mk 4 N 0 ((m % 8:Nat):Int) []],0)):=by
  unfold taker_chunk_sh
  by_cases e:i=m
  ·subst e
   rw [if_pos rfl]
   have hdl:((D.drop (48 * i)).take 48).length=min 48 (D.length-48 * i):=by simp
   have hw:IntKind.i64.wrap ((D.length:Int)-((48 * i:Nat):Int))=((D.length-48 * i:Nat):Int):=by rw [wrap_i64 (by omega) (by omega)]; omega
   refine bndL (s:=false) (cnd_f rfl (inl_of (by simp [pfY]))) (cnd_f rfl (cnd_f hne (bnd hq (cnd_f (by simp [pfY]) ?_))))
   refine bnd (x:=(D.length:Int)) ?_ (bnd (congrArg some hw) (bndL (s:=false) (bnd (rem_nat i 8 (by omega)) (cnd_f (by simp [pfY]) (bnd rfl (inl_of ?_)))) (cnd_f rfl ?_)))
   ·show some (if ((48 * i:Nat):Int) > (D.length:Int) then ((48 * i:Nat):Int) else (D.length:Int))=some (D.length:Int)
    rw [if_neg (by omega)]
   ·show ((((D.drop (48 * i)).take 48).length:Int) != (if ((D.length-48 * i:Nat):Int)<48 then ((D.length-48 * i:Nat):Int) else 48))=false
    rw [hdl]
    simp only [bne_eq_false_iff_eq]
    split <;> omega
   ·exact bnd (congrArg some (wrap_succ (n:=i) (by omega))) (bnd (ack_eq N (i+1)) (bnd rfl (bnd (list_eq _ (by show ((D.drop (48 * i)).take 48).length≤100000; omega)) rfl)))
  ·rw [if_neg e]
   refine bndL (s:=false) (cnd_f rfl (inl_of (by simp [pfY]))) (cnd_f rfl (cnd_f hne (bnd hq (cnd_t ?_ ?_))))
   ·show (((48 * i:Nat):Int) != ((48 * m:Nat):Int))=true
    simp; omega
   ·exact bndL (s:=(m:Int)) (bnd (rem_nat (48 * m) 48 (by omega)) (cnd_f (by rw [show 48 * m % 48=0 by omega]; rfl) rfl)) (bnd (ack_eq N m) (bnd rfl rfl))
 have hh:taker_hear_sh (spY N D m) (T_Take.mk true N (D.length:Int)) (pfY N D i)=some (if i=m then (T_taker_result.mk (T_Take.mk true N (D.length:Int)) [ckY N ((48 * m:Nat):Int) ((D.drop (48 * m)).take 48)] [T_Frame.mk 4 N 0 (((m+1) % 8:Nat):Int) []],0) else (T_taker_result.mk (T_Take.mk true N (D.length:Int)) [] [T_Frame.mk 4 N 0 ((m % 8:Nat):Int) []],0)):=by
  unfold taker_hear_sh
  exact bndL (s:=false) rfl (cnd_f rfl (bnd (contains_eq _ _ (by simp [spY])) (cnd_f (by simp [spY]) (cnd_f rfl (bnd ((far_eq _ N).trans (congrArg some (far_sp hl hm))) (bnd hc rfl))))))
 unfold taker_Hear_sh
 refine bnd (good_pf hl hi) (cnd_f rfl (bnd hh ?_))
 by_cases e:i=m
 ·rw [if_pos e,if_pos e]; exact cnd_f rfl rfl
 ·rw [if_neg e,if_neg e]; exact cnd_f rfl rfl
end Go.Abs.Sh
