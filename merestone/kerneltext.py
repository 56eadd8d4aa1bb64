"""The code of the kernel, as an assembly text.

It is the same for every configuration: what differs stands in the kernel's words behind it, always at the same
addresses. These are, from the address told by each name on:
- VARIABLES: the kernel's variables;
- FRAMES: the table of the frames: for each the record of its partition, or 0 if it is idle, and its ticks;
- MAPS: for each partition the eight entries of its map and, behind them, its record: the eight registers, the place,
  1 if it has ended and else 0, the cause and the value of its end;
- CHANNELS: for each channel the records of its source and its target, its capacity, the answer to a send when it is
  full, the number of its words, the slot of the first one, and eight slots, which are used in a circle.
A record is told by its address.
"""

# The names that the code uses, with their values; besides, it uses GAP and CALL.
NAMED = {
    # Where the kernel's words stand, how many it has in all, and how many of them one of several takes.
    "VARIABLES": 224,
    "FRAMES": 240,
    "MAPS": 272,
    "CHANNELS": 432,
    "KERNEL_WORDS": 624,
    "FRAME_WORDS": 2,
    "MAP_WORDS": 8,
    "PARTITION_WORDS": 20,
    "CHANNEL_WORDS": 16,
    # The variables: the frame that runs or comes next, as a place in the table, and its number; the ticks at which it
    # begins and ends; the record of its partition; the address behind the table; the number of the channels; the tick
    # at which the frame before it has ended. Ticks are modulo 65536.
    "FRAME": 0,
    "NUMBER": 1,
    "BEGIN": 2,
    "FINISH": 3,
    "RUNNING": 4,
    "BEHIND": 5,
    "MANY": 6,
    "LAST": 7,
    # Within a record.
    "PLACE": 8,
    "ENDED": 9,
    "CAUSE": 10,
    "VALUE": 11,
    # Within a channel.
    "SOURCE": 0,
    "TARGET": 1,
    "CAPACITY": 2,
    "LOST": 3,
    "LENGTH": 4,
    "FIRST": 5,
    "SLOTS": 6,
    # The special registers, and causes of traps.
    "EPC": 0,
    "TRAP_CAUSE": 1,
    "TRAP_VALUE": 2,
    "MAP": 3,
    "ALARM": 4,
    "TRAP_TICK": 6,
    "CALLED": 3,
    "ALARMED": 6,
}

CODE = """
; The machine comes here at its first tick and with every trap. r0 is 0 at any time; r7 tells the variables.
entry:      set r7, VARIABLES
            gets r1, TRAP_CAUSE
            bne r1, r0, trapped
            set r2, prepare             ; no trap yet: the first tick
            jump r2
trapped:    set r2, CALLED
            bne r1, r2, not_called
            set r2, called
            jump r2
not_called: set r2, ALARMED
            beq r1, r2, save

; The partition ends with the cause in r1.
end:        load r2, r7, RUNNING
            store r1, r2, CAUSE
            gets r1, TRAP_VALUE
            store r1, r2, VALUE
            set r1, 1
            store r1, r2, ENDED

; The partition goes on in its next frame, at the place in epc.
save:       load r1, r7, RUNNING
            getu r2, r0
            store r2, r1, 0
            getu r2, r1
            store r2, r1, 1
            getu r2, r2
            store r2, r1, 2
            getu r2, r3
            store r2, r1, 3
            getu r2, r4
            store r2, r1, 4
            getu r2, r5
            store r2, r1, 5
            getu r2, r6
            store r2, r1, 6
            getu r2, r7
            store r2, r1, 7
            gets r2, EPC
            store r2, r1, PLACE

; The next frame of the table, behind the last one the first one.
next:       load r1, r7, FRAME
            addi r1, r1, FRAME_WORDS
            load r2, r7, BEHIND
            bne r1, r2, within
            set r1, FRAMES
within:     store r1, r7, FRAME
            load r1, r7, NUMBER
            addi r1, r1, 1
            store r1, r7, NUMBER
            load r1, r7, FINISH
            store r1, r7, LAST
            set r2, GAP
            add r1, r1, r2
            store r1, r7, BEGIN

; The frame is told by the variables; what is behind `until` comes two ticks before it begins.
prepare:    load r1, r7, FRAME
            load r2, r7, BEGIN
            load r3, r1, 1
            add r3, r2, r3
            store r3, r7, FINISH
            addi r2, r2, -2
            puts r2, ALARM
            load r1, r1, 0
            beq r1, r0, idle
            load r2, r1, ENDED
            beq r2, r0, resume
idle:       until
            set r1, next
            jump r1
resume:     store r1, r7, RUNNING
            addi r2, r1, -MAP_WORDS
            puts r2, MAP
            load r2, r1, PLACE
            puts r2, EPC
            load r2, r1, 0
            putu r0, r2
            load r2, r1, 1
            putu r1, r2
            load r2, r1, 2
            putu r2, r2
            load r2, r1, 3
            putu r3, r2
            load r2, r1, 4
            putu r4, r2
            load r2, r1, 5
            putu r5, r2
            load r2, r1, 6
            putu r6, r2
            load r2, r1, 7
            putu r7, r2
            until
            puts r3, ALARM              ; the end of the frame
            rest

; A call. If it comes too late, or has no such number, the place is that of the call.
called:     set r4, save
            load r2, r7, FINISH
            gets r3, TRAP_TICK
            sub r2, r2, r3
            set r3, CALL
            blt r2, r3, back
            set r4, end
            gets r2, TRAP_VALUE
            set r3, 4
            blt r2, r3, serve
back:       gets r2, EPC
            addi r2, r2, -1
            puts r2, EPC
            jump r4
serve:      set r3, calls
            add r3, r3, r2
            load r3, r3, 0
            jump r3
calls:      word save, send, receive, frame

; The channel whose number is in the user register 0, if r2 tells the word of it that must be the record of this
; partition, as for the channel 0. Goes on at r4 with the channel in r1.
find:       getu r1, r0
            shl r3, r1, 4
            add r2, r2, r3
            load r5, r7, MANY
            blt r1, r5, exists
refuse:     copy r1, r0
            set r2, done
            jump r2
exists:     load r5, r2, 0
            load r6, r7, RUNNING
            bne r5, r6, refuse
            set r1, CHANNELS
            add r1, r1, r3
            jump r4

send:       set r2, CHANNELS + SOURCE
            set r5, find
            jal r4, r5
            load r2, r1, LENGTH
            load r3, r1, CAPACITY
            blt r2, r3, room
            load r1, r1, LOST
            set r2, done
            jump r2
room:       load r3, r1, FIRST
            add r3, r3, r2
            set r4, 7
            and r3, r3, r4
            add r3, r3, r1
            getu r4, r1
            store r4, r3, SLOTS
            addi r2, r2, 1
            store r2, r1, LENGTH
            set r1, 1
            set r2, done
            jump r2

receive:    set r2, CHANNELS + TARGET
            set r5, find
            jal r4, r5
            load r2, r1, LENGTH
            bne r2, r0, take
            set r2, refuse
            jump r2
take:       addi r2, r2, -1
            store r2, r1, LENGTH
            load r3, r1, FIRST
            add r4, r3, r1
            load r4, r4, SLOTS
            putu r1, r4
            addi r3, r3, 1
            set r4, 7
            and r3, r3, r4
            store r3, r1, FIRST
            set r1, 1
            set r2, done
            jump r2

frame:      load r1, r7, NUMBER

; The user register 0 becomes r1, and the program goes on CALL ticks behind the call.
done:       putu r0, r1
            gets r1, TRAP_TICK
            set r2, CALL - 2
            add r1, r1, r2
            puts r1, ALARM
            load r1, r7, FINISH
            until
            puts r1, ALARM
            rest
"""
