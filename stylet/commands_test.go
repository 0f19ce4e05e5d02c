package stylet_test

import (
	"bytes"
	"fmt"
	"strings"
	"testing"

	"stylet/api"
)

func nopsOf(count int) []byte { return bytes.Repeat([]byte{0xea}, count) }

func TestP7TellsRegisters(t *testing.T) {
	// LDA #$81, LDX #$72, LDY #$63, PHA, SEC, jams
	checkTalk(t, `
		g 000000fd24020000000000
		s0001 T0000001
		g 000000fd24020000000001 // as behind the last one that is done
		s0001 T0000001
		g 810000fda4020200000002
		i0002 T0000004
		g 817263fd24020600000006
		s0002 T0000002
		g 817263fd24020600000008
		s0001 T0000001
		g 817263fc24020700000009
		s0003 T0000003
		g 817263fc2502080000000c // it has jammed: as ahead of that
		s0003 T3000000
		g 817263fc2502080000000c`,
		0xa9, 0x81, 0xa2, 0x72, 0xa0, 0x63, 0x48, 0x38, 0x02)
}

func TestP7TellsManyCycles(t *testing.T) {
	k := bootTalk(t, []byte{0x4c, 0x00, 0x02})
	for range 3 {
		k.check(t, "sffff", "T000ffff")
	}
	k.check(t, "g", "000000fd2402000002fffd")
}

func TestP7TellsMemory(t *testing.T) {
	k := newTalk(t, config(0, vectors, chunk(0x200, 0xa9, 0x05, 0x02), chunk(0xcfff, 0xab, 1, 2, 0xcd), chunk(0, 0x10, 0x20, 0x30)))
	k.checkLines(t, `
		m020003 a90502
		m020101 05
		mFffe04 00061020
		mfFfC06 000200061020
		mcfff04 ab0000cd // the timer's bytes
		m02FF01 00
		m020000 E2
		m020021 E2
		m0200ff E2
		m020080 E2
		g 000000fd24020000000000`)
	k.check(t, "m020020", "a90502"+strings.Repeat("00", 29))
	k.check(t, "m02001f", "a90502"+strings.Repeat("00", 28))
	k.check(t, "mffe220", strings.Repeat("00", 24)+"0005000200061020")
}

func TestP7TellsTheTimerAndChangesNothing(t *testing.T) {
	// LDA #9, STA $D000, NOP ..
	checkTalk(t, `
		i0002 T0000006
		md00002 0900
		md00002 0900
		s0008 T0000008
		mcfff04 00010000
		s0001 T0000001
		md00002 0080
		md00101 80
		md00002 0080
		g 090000fd2402090000000f`,
		append([]byte{0xa9, 9, 0x8d, 0x00, 0xd0}, nopsOf(20)...)...)
}

func TestP7PatchIsDoneAtOnceAtAFetch(t *testing.T) {
	k := newTalk(t, config(0, vectors, chunk(0x200, 0xa9, 5, 0x02)))
	k.checkLines(t, `
		w0201Ff OK
		m020004 a9ff0200
		wffff01020304 OK
		mffff06 010203040000
		w03000102030405060708 OK
		m030009 010203040506070800
		w0302aa OK
		m030004 0102aa04
		wcfff11223344 OK // behind the timer, where nobody reads it
		mcfff04 11000044
		i0001 T0000002
		w0202ea OK
		i0001 T0000002
		g ff0000fda4020300000004
		w020302 OK
		i0001 T0000001 // it jams
		w0200010203040506 OK
		m020006 010203040506
		w0200aa OK
		w0201bb OK
		w0202cc OK
		w0203dd OK
		w0204ee OK
		m020006 aabbccddee06
		g ff0000fda4020300000005`)
}

func TestP7PatchChangesNoTimer(t *testing.T) {
	// LDA #9, STA $D000, NOP ..
	checkTalk(t, `
		i0002 T0000006
		wd0004080 OK
		md00002 0900
		i0001 T0000002
		md00002 0700
		s0007 T0000007
		md00002 0080
		wd0010000 OK
		wd00000 OK
		md00002 0080`,
		append([]byte{0xa9, 9, 0x8d, 0x00, 0xd0}, nopsOf(20)...)...)
}

func TestP7PatchWaitsForTheFetch(t *testing.T) {
	// INC $0300, LDA $0310, jams
	checkTalk(t, `
		s0001 T0000001
		w020102 OK // the operand, which is read in the next cycle
		w030040 OK
		w030150 OK
		w03005f6f OK
		w030077 E4
		m030002 0000
		m020101 00
		s0003 T0000003
		m030002 0000
		s0001 T0000001
		w030077 E4
		m030002 0000
		s0001 T0000001 // the new byte is written, and all patches go over it
		m030002 5f6f
		m020101 02
		w030077 OK
		m030002 776f
		w0206aabb OK
		m020602 aabb
		s0001 T0000001
		w020603 OK
		w0206ccddee OK
		w0206ff OK
		w0207aa OK
		w0208aa E4
		m020603 aabb00
		s0003 T0000003
		m020603 ffaaee
		g 000000fd2602060000000a`,
		0xee, 0x00, 0x03, 0xad, 0x10, 0x03, 0x02)
}

func TestP7PatchesWaitAgainAndAgain(t *testing.T) {
	k := bootTalk(t, []byte{0xea, 0x4c, 0x00, 0x02}) // NOP, JMP $200
	for round := range 40 {
		k.check(t, "s0001", "T0000001")
		for i := range 1 + round%api.MaxPatches {
			k.check(t, fmt.Sprintf("w03%02x%02x%02x", i, round, i), "OK")
		}
		last := round % api.MaxPatches
		k.check(t, "s0001", "T0000001")
		k.check(t, fmt.Sprintf("m03%02x02", last), fmt.Sprintf("%02x%02x", round, last))
		k.check(t, "i0001", "T0000003")
	}
}

func TestP7PatchIsDoneWithinACommand(t *testing.T) {
	// NOP, NOP, JMP $200; the second NOP becomes INX while the first one is done
	checkTalk(t, `
		s0001 T0000001
		w0201e8 OK
		s0003 T0000003
		g 000100fd24020200000004`, 0xea, 0xea, 0x4c, 0x00, 0x02)
	// and at the end of a command by a watch, a breakpoint, the last instruction
	checkTalk(t, `
		s0001 T0000001
		v0300 OK
		w030033 OK
		i0005 T2000003
		m030001 33
		s0001 T0000001
		w030044 OK
		b0204 OK
		s00ff T1000001
		m030001 44`, 0x8d, 0x00, 0x03, 0xea, 0xea)
	checkTalk(t, `
		s0002 T0000002
		w030033 OK
		i0001 T0000002
		m030001 33`, 0x8d, 0x00, 0x03, 0xea, 0xea)
}

func TestP7PatchWaitsForASequence(t *testing.T) {
	checkTalk(t, `
		p1 OK
		s0001 T0000001 // the fetch of the NMI sequence
		wfffa34 OK
		w030011 OK
		m030001 00
		s0005 T0000005
		m030001 00
		s0001 T0000001
		m030001 11
		mfffa01 34
		g 000000fa24050000000007
		s0001 T0000001
		w030022 OK
		m030001 11
		s0006 T0000006 // BRK
		m030001 22`, 0xea)
	checkTalk(t, `
		p2 OK
		i0001 T0000002
		s0003 T0000003 // three cycles of the IRQ sequence
		w030011 OK
		s0003 T0000003
		m030001 00
		s0001 T0000001
		m030001 11
		g 000000fa24060000000009`, 0x58)
}

func TestP7PatchBounds(t *testing.T) {
	for _, ready := range []bool{true, false} {
		k := bootTalk(t, []byte{0xea, 0xea})
		if !ready {
			k.checkLines(t, "s0001 T0000001 \n w030000 OK \n w030000 OK \n w030000 OK \n w030000 OK \n w030001 E4")
		}
		k.check(t, "w0300", "E2")
		for count := 9; 5+2*count <= api.MaxBody; count++ {
			k.check(t, "w0300"+strings.Repeat("11", count), "E2")
			k.check(t, "w0300"+strings.Repeat("11", count)+"1", "E1")
			k.check(t, "w0300"+strings.Repeat("11", count-1)+"g1", "E1")
		}
		for count := range 8 {
			k.check(t, "w0300"+strings.Repeat("11", count)+"1", "E1")
			k.check(t, "w0300"+strings.Repeat("11", count)+"1x", "E1")
			k.check(t, "w0300"+strings.Repeat("11", count)+"zz", "E1")
		}
		k.check(t, "s0001", "T0000001")
		k.check(t, "m030009", strings.Repeat("00", 9))
	}
	for count := 1; count <= 8; count++ {
		k := bootTalk(t, nil)
		k.check(t, "w0300"+strings.Repeat("9c", count), "OK")
		k.check(t, "m02ff0a", "00"+strings.Repeat("9c", count)+strings.Repeat("00", 9-count))
	}
}

func TestP7Points(t *testing.T) {
	k := bootTalk(t, nil)
	for _, c := range []string{"bd", "vx"} {
		add, remove := c[:1], c[1:]
		k.check(t, remove+"0000", "E5") // it is in no empty place
		for _, at := range []string{"0000", "ffFF", "1234", "00aB", "1234", "FFff", "00Ab", "0000"} {
			k.check(t, add+at, "OK")
		}
		k.check(t, add+"4321", "E4")
		k.check(t, add+"00ac", "E4")
		k.check(t, remove+"4321", "E5")
		for _, at := range []string{"00aB", "0000", "1234", "ffff"} {
			k.check(t, remove+at, "OK")
			k.check(t, remove+at, "E5")
			k.check(t, add+"4321", "OK")
			k.check(t, add+"4321", "OK")
			k.check(t, add+at, "E4")
			k.check(t, remove+"4321", "OK")
			k.check(t, add+at, "OK")
			k.check(t, add+"4321", "E4")
		}
		for _, at := range []string{"ffff", "0000", "00ab", "1234"} {
			k.check(t, remove+at, "OK")
		}
		for _, at := range []string{"ffff", "0000", "00ab", "1234", "4321"} {
			k.check(t, remove+at, "E5")
		}
	}
}

func TestP7BreakpointsAndWatchesAreTwoThings(t *testing.T) {
	checkTalk(t, `
		b0200 OK
		x0200 E5
		v0201 OK
		d0201 E5
		v0202 OK
		v0203 OK
		v0204 OK
		b0205 OK
		b0206 OK
		b0207 OK
		v0208 E4
		b0208 E4
		x0201 OK
		d0200 OK`)
}

func TestP7EachOfFourPointsStops(t *testing.T) {
	for removed := range 5 {
		k := bootTalk(t, append(nopsOf(10), 0x4c, 0x00, 0x02))
		for i := range 4 {
			k.check(t, fmt.Sprintf("b%04x", 0x201+2*i), "OK")
		}
		if removed < 4 {
			k.check(t, fmt.Sprintf("d%04x", 0x201+2*removed), "OK")
		}
		last := 0
		for i := range 4 {
			if i != removed {
				k.check(t, "s00ff", fmt.Sprintf("T1%06x", 2+4*i-last))
				last = 2 + 4*i
			}
		}
	}
}

func TestP7GoesOnForCycles(t *testing.T) {
	checkTalk(t, `
		s0000 T0000000
		s0001 T0000001
		s0000 T0000000
		s0002 T0000002
		g 000000fd24020100000003
		s000A T000000a
		s0100 T0000100
		s1000 T0001000
		g 000000fd2402010000110d
		sFfFf T000ffff`, 0xea, 0x4c, 0x01, 0x02)
}

func TestP7GoesOnForInstructions(t *testing.T) {
	checkTalk(t, `
		i0000 T0000000
		i0001 T0000002
		i0002 T0000007 // STA, JMP
		g 050000fd24020000000009
		s0001 T0000001
		i0000 T0000000
		i0001 T0000001 // what is left of LDA
		s0003 T0000003
		i0001 T0000001 // and of STA
		i0004 T000000c
		i0FFf T0002ffd // 1365 times round
		g 050000fd24020000003018
		i1000 E2
		i1fff E2
		iffff E2
		i8000 E2
		g 050000fd24020000003018`, 0xa9, 0x05, 0x8d, 0x00, 0x03, 0x4c, 0x00, 0x02)
	k := bootTalk(t, nil, chunk(0x600, 0x00)) // BRK, over and over
	k.check(t, "i0fff", "T0006ff9")
}

func TestP7SequencesCountAsInstructions(t *testing.T) {
	checkTalk(t, `
		i0001 T0000002
		p2 OK
		i0001 T0000007
		g 000000fa24060000000009
		p0 OK
		p1 OK
		i0001 T0000007
		g 000000f724050000000010
		i0001 T0000007`, 0x58, 0xea)
}

func TestP7StopsAtBreakpoints(t *testing.T) {
	checkTalk(t, `
		b0202 OK
		s00ff T1000004 // NOP, NOP
		s00ff T1000007 // LDA #$EA, NOP, JMP
		i00ff T1000007
		i0003 T0000007 // all are done, and that is looked at first
		s0007 T0000007
		s0008 T1000007
		i0004 T1000007
		d0202 OK
		s0008 T0000008`, 0xea, 0xea, 0xa9, 0xea, 0xea, 0x4c, 0x02, 0x02)
	checkTalk(t, `
		b0200 OK
		s0000 T0000000
		s00ff T1000003 // JMP to itself
		i00ff T1000003
		i0001 T0000003
		s0001 T0000001
		s00ff T1000002
		s0003 T0000003`, 0x4c, 0x00, 0x02)
}

func TestP7BreakpointsAreForFetches(t *testing.T) {
	// LDA $0204, NOP, NOP: operands and bytes that are read
	checkTalk(t, `
		b0201 OK
		b0202 OK
		b0200 OK
		s0001 T0000001
		s0002 T0000002
		s0005 T0000005
		g ea0000fda4020500000008`, 0xad, 0x04, 0x02, 0xea, 0xea)
	// a sequence begins with a fetch
	checkTalk(t, `
		b0201 OK
		b0500 OK
		s0001 T0000001
		p1 OK
		s00ff T1000001
		s00ff T1000007
		g 000000fa24050000000009`, 0xea, 0xea)
	// where it has jammed, there is none
	checkTalk(t, `
		b0201 OK
		s00ff T1000002
		s00ff T3000001
		s00ff T3000000`, 0xea, 0x02)
}

func TestP7StopsAtWatches(t *testing.T) {
	// STA $0300, LDA $0300, INC $10, JMP $200
	checkTalk(t, `
		v0300 OK
		s00ff T2000004
		i0002 T2000004
		x0300 OK
		v0010 OK
		s00ff T2000003 // it is read
		s00ff T2000001 // written as it was
		i0001 T2000001 // and written
		x0010 OK
		v0201 OK
		s00ff T2000005 // an operand
		x0201 OK
		v0203 OK
		i00ff T2000003 // a fetch
		s0001 T0000001
		s0100 T200000f`, 0x8d, 0x00, 0x03, 0xad, 0x00, 0x03, 0xe6, 0x10, 0x4c, 0x00, 0x02)
	// NOP reads what is behind it, PHA the same, and writes to the stack
	checkTalk(t, `
		v0201 OK
		s00ff T2000002
		s00ff T2000001
		x0201 OK
		v01fd OK
		s00ff T2000002`, 0xea, 0x48)
}

func TestP7WatchEndsItWhateverElse(t *testing.T) {
	// all cycles, or instructions, done
	checkTalk(t, `
		v0200 OK
		v0202 OK
		s0001 T2000001
		i0001 T0000001
		i0001 T2000002
		s0000 T0000000`, 0xea, 0xea, 0xea)
	// a breakpoint would be next
	checkTalk(t, `
		b0201 OK
		v0201 OK
		s00ff T2000002
		s00ff T2000001`, 0xea, 0xea)
	// it jams
	checkTalk(t, `
		v0200 OK
		s00ff T2000001
		s00ff T3000000`, 0x02)
	// the records are full
	checkTalk(t, `
		t1 OK
		s003f T000003f
		v0200 OK
		s00ff T2000001
		s00ff T4000000`, 0x4c, 0x00, 0x02)
}

func TestP7StopsWhenJammed(t *testing.T) {
	checkTalk(t, `
		s0003 T0000003
		s0001 T3000000
		s0000 T0000000
		i0000 T0000000
		i0001 T3000000
		i0fff T3000000
		p1 OK
		s0001 T3000000
		w0201ea OK
		s0001 T3000000
		b0201 OK
		s0001 T3000000
		g 000000fd24020100000003`, 0xea, 0x02)
	checkTalk(t, "i0002 T0000003 \n i0001 T3000000", 0xea, 0x02)
	checkTalk(t, "i0003 T3000003", 0xea, 0x02)
	checkTalk(t, "s0004 T3000003", 0xea, 0x02)
}

func TestP7OrderOfReasons(t *testing.T) {
	loop := append(nopsOf(31), 0x4c, 0x1e, 0x02) // from $21E on NOP, JMP
	full := "t1 OK \n s0040 T0000040 \n s0000 T0000000 \n i0000 T0000000 \n s0001 T4000000 \n i0001 T4000000 \n t0 OK \n s0001 T0000001"
	checkTalk(t, full, loop...)
	checkTalk(t, "t1 OK \n i0020 T4000040", loop...) // JMP is not done yet
	checkTalk(t, "t1 OK \n i0020 T0000040", nopsOf(32)...)
	checkTalk(t, "t1 OK \n b0220 OK \n s00ff T1000040 \n s00ff T4000000", nopsOf(32)...)
	checkTalk(t, "t1 OK \n s0041 T3000040 \n s0041 T3000000", append(append([]byte{0xa5, 0x10}, nopsOf(30)...), 0x02)...)
}

func TestP7Records(t *testing.T) {
	checkTalk(t, `
		q
		s0001 T0000001
		t1 OK
		q
		s0004 T0000004
		t0 OK
		s0003 T0000003
		q 020105r020285f020310r001005w
		q
		t1 OK
		t1 OK
		s0002 T0000002
		t1 OK
		i0001 T0000001
		t0 OK
		t0 OK
		s0001 T0000001
		t1 OK
		s0002 T0000002
		q 02044cf020504r020602r020504r020602r
		q
		s0005 T0000005
		s0004 T0000004
		q 02044cf020504r020602r02044cf020504r020602r02044cf020504r
		s0001 T0000001
		q 020602r02044cf`,
		0xa9, 5, 0x85, 0x10, 0x4c, 4, 2)
}

func TestP7RecordsOfAllKinds(t *testing.T) {
	// STA $D000, INC $10, JSR $0300 where it jams
	k := bootTalk(t, []byte{0x8d, 0x00, 0xd0, 0xe6, 0x10, 0x20, 0x00, 0x03}, chunk(0x300, 0x02))
	k.checkLines(t, `
		t1 OK
		s00ff T3000010
		q 02008df020100r0202d0rd00000w0203e6f020410r001000r001000w
		q 001001w020520f020600r01fd00r01fd02w01fc07w020703r030002f
		q`)
	// a byte that Rom does not take, an NMI sequence
	k = newTalk(t, config(2, vectors, chunk(0x200, 0xa9, 0x77, 0x8d, 0x03, 0x02, 0x02)))
	k.checkLines(t, `
		i0001 T0000002
		t1 OK
		s0004 T0000004
		p1 OK
		i0001 T0000007
		q 02028df020303r020402r020377w020502f020502r01fd02w01fc05w
		q 01fb24wfffa00rfffb05r`)
}

func TestP7RecordsGoRoundTheRing(t *testing.T) {
	k := bootTalk(t, []byte{0x4c, 0x00, 0x02})
	cycle := []string{"02004cf", "020100r", "020202r"}
	first, next := 0, 0
	k.check(t, "t1", "OK")
	for round := range 60 {
		steps := min(round, api.Ring-(next-first))
		reason := 0
		if steps < round {
			reason = 4
		}
		k.check(t, fmt.Sprintf("s%04x", round), fmt.Sprintf("T%d%06x", reason, steps))
		next += steps
		var want string
		for range min(8, next-first) {
			want += cycle[first%3]
			first++
		}
		k.check(t, "q", want)
	}
}

func TestP7FullRecordsHoldItUp(t *testing.T) {
	k := bootTalk(t, []byte{0x4c, 0x00, 0x02})
	k.checkLines(t, `
		t1 OK
		s0100 T4000040
		s0100 T4000000
		i0100 T4000000
		g 000000fd24020000000040
		t0 OK
		s0010 T0000010
		t1 OK
		s0010 T4000000
		q 02004cf020100r020202r02004cf020100r020202r02004cf020100r
		s0100 T4000008
		t0 OK
		s0001 T0000001`)
	for _, first := range []int{8, 16, 24, 32, 40, 48, 56, 80} { // 16 cycles are not recorded
		want := strings.Repeat("02004cf020100r020202r", 4)[7*(first%3):][:56]
		k.check(t, "q", want)
	}
	k.check(t, "q", "")
}

func TestP7Pins(t *testing.T) {
	// CLI, NOP ..; at $500 and $600 RTI
	more := []api.Chunk{chunk(0x500, 0x40), chunk(0x600, 0x40)}
	k := bootTalk(t, append([]byte{0x58}, nopsOf(30)...), more...)
	k.checkLines(t, `
		i0001 T0000002
		g 000000fd20020100000002
		p2 OK
		i0001 T0000007
		g 000000fa24060000000009
		i0001 T0000006 // RTI
		i0001 T0000007 // the line is still on
		i0001 T0000006
		p0 OK
		i0001 T0000002
		g 000000fd2002020000001e
		p1 OK
		i0001 T0000007
		g 000000fa24050000000025
		i0001 T0000006
		i0001 T0000002 // the NMI was due once
		p3 OK
		i0001 T0000007
		g 000000fa24060000000034
		i0001 T0000006
		p1 OK
		i0001 T0000002
		g 000000fd2002040000003c
		p0 OK
		s0001 T0000001
		p3 OK
		s0001 T0000001
		i0001 T0000007 // NMI ahead of IRQ
		g 000000fa24050000000045`)
}

func TestP7PinsWorkInCycles(t *testing.T) {
	// no cycle, no change of a line
	k := bootTalk(t, nops, chunk(0x500, nops...))
	k.checkLines(t, `
		p1 OK
		p0 OK
		i0001 T0000002
		p1 OK
		i0001 T0000007
		g 000000fa24050000000009
		p0 OK
		p1 OK
		i0001 T0000002
		p0 OK
		s0001 T0000001
		p1 OK
		s0001 T0000001
		i0001 T0000007`)
}

// commandForms has bodies of all commands.
func commandForms() []string {
	return []string{"g", "q", "t0", "t1", "p0", "p1", "p2", "p3", "m020001", "w020001", "w02000102030405060708",
		"b0201", "d0201", "v0201", "x0201", "s0001", "i0001"}
}

func TestP7WordsThatAreNoCommands(t *testing.T) {
	k := bootTalk(t, []byte{0xea})
	for _, body := range []string{
		"", " ", "z", "G", "g0", "gg", "q0", "Q", "q ", " q", "g\x00", "\x00", "\xff", "$", "#", "}", "OK", "?",
		"m", "m0", "m0200", "m02000", "m0200010", "m02000101", "m02000z", "mzzzz01", "m0200 1", "m 20001", "M020001", "m0200-1", "m0x2001",
		"b", "b0", "b020", "b02000", "b020000", "b-001", "b+001", "b 200", "b0x20", "B0200",
		"d", "d02g0", "d020", "d02000", "v", "v020", "v02000", "x", "x0", "x020", "x02000",
		"s", "s1", "s001", "s00001", "s000001", "s-001", "S0001", "s000\x00",
		"i", "i1", "i00001", "i-001", "i 001", "i10000", "iffffff",
		"t", "t2", "ta", "t00", "t01", "T1", "t 1", "t-1", "p", "p4", "p9", "pa", "p00", "p01", "P0", "p-1", "p\x01",
		"w", "w0", "w020", "w02000", "wzz0000", "w0200g0", "W020000", "w0200 0", "0200", "02000000",
		strings.Repeat("0", api.MaxBody), strings.Repeat("$", api.MaxBody), "m" + strings.Repeat("0", api.MaxBody-1), "g" + strings.Repeat("0", api.MaxBody-1),
	} {
		k.check(t, body, "E1")
	}
	k.checkLines(t, "g 000000fd24020000000000 \n m020002 ea00 \n q")
}

func TestP7OnlyTheseLettersAreCommands(t *testing.T) {
	k := bootTalk(t, nil)
	for _, c := range []struct{ digits, letters string }{
		{"", "gq"}, {"0", "tp"}, {"1", "tp"}, {"2", "p"}, {"3", "p"}, {"4", ""}, {"00", ""}, {"000", ""},
		{"0000", "bdvxsiw"}, {"00000", ""}, {"000001", "mw"}, {"0000010", ""}, {"00000100", "w"},
	} {
		for letter := range 256 {
			body := string([]byte{byte(letter)}) + c.digits
			got := k.feed(framed(k.due, body))
			isUnknown := got == "+"+framed(k.due, "E1")
			if isUnknown == strings.Contains(c.letters, body[:1]) {
				t.Errorf("%q: %q", body, got)
			}
			k.due = (k.due + 1) % 256
		}
	}
}

func TestP7EveryByteOfACommandCounts(t *testing.T) {
	k := bootTalk(t, []byte{0x4c, 0x00, 0x02})
	for _, form := range commandForms() {
		for i := range len(form) + 1 {
			for _, wrong := range []string{" ", "g", "z", "/", ":", "@", "G", "`", "-", "+", "_", "x", "\x00", "\xb1", "$", "#", "}"} {
				k.check(t, form[:i]+wrong+form[i:], "E1")
				if i > 0 && i < len(form) {
					k.check(t, form[:i]+wrong+form[i+1:], "E1")
				}
			}
			if i > 0 && i < len(form) && form[0] != 'w' {
				k.check(t, form[:i]+form[i+1:], "E1")
			}
		}
	}
	k.checkLines(t, "g 000000fd24020000000000 \n d0201 E5 \n x0201 E5 \n q")
}

func TestP7DigitsThatAreReadMayBeGreat(t *testing.T) {
	checkTalk(t, `
		wABcDeF OK
		mabCd01 ef
		MABCD01 E1
		mABCD1F ef000000000000000000000000000000000000000000000000000000000000
		bFFaA OK
		dffAa OK
		vFFaA OK
		xffAa OK
		s00Ff T00000ff
		i00aF T000020d`, 0x4c, 0x00, 0x02)
}
