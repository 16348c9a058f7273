package siv_test

import (
	"bytes"
	"encoding/binary"
	"slices"
	"testing"

	"vestry/api"
	"vestry/siv"
)

// turned is the bytes with one bit turned, in memory of their own.
func turned(b []byte, bit int) []byte {
	b = slices.Clone(b)
	b[bit/8] ^= 1 << (bit % 8)
	return b
}

// lengths lie at the edges of the blocks, and beyond the 256 bits and 256 blocks that a byte counts.
func lengths() []int {
	return []int{0, 1, 2, 8, 12, 15, 16, 17, 31, 32, 33, 47, 48, 49, 64, 255, 256, 257, 1000, 4095, 4096, 4097, 4113, 8192}
}

func few() []int { return []int{0, 1, 15, 16, 17, 31, 32, 33} }

func checkBoth(t *testing.T, k key, n nonce, aad, text []byte) {
	t.Helper()
	want := sealed(k, n, aad, text)
	got, e := siv.Seal(k, n, aad, text)
	if e != api.OK || !bytes.Equal(got, want) {
		t.Errorf("Seal of %d bytes beside %d is %.40x.. (%d bytes), %v, want %.40x..", len(text), len(aad), got, len(got), e, want)
	}
	back, e := siv.Open(k, n, aad, want)
	if e != api.OK || !bytes.Equal(back, text) {
		t.Errorf("Open of %d bytes beside %d is %.40x.. (%d bytes), %v, want %.40x..", len(want), len(aad), back, len(back), e, text)
	}
}

func checkOpen(t *testing.T, what string, k key, n nonce, aad, b []byte, want api.Errno) {
	t.Helper()
	if text, e := siv.Open(k, n, aad, b); e != want || len(text) != 0 {
		t.Errorf("Open of %d bytes, %s, is %.40x.., %v, want %v", len(b), what, text, e, want)
	}
}

func TestSealAndOpenOfAllLengths(t *testing.T) {
	for _, length := range lengths() {
		k, n := drawnKey(int64(length))
		text := drawn(int64(length)+1, length)
		checkBoth(t, k, n, nil, text)
		checkBoth(t, k, n, drawn(int64(length)+2, length), text)
		checkBoth(t, k, n, text, nil)
	}
}

func TestSealAndOpenBesideFewBytes(t *testing.T) {
	k, n := drawnKey(3)
	for _, length := range few() {
		for _, beside := range few() {
			checkBoth(t, k, n, drawn(4, beside), drawn(5, length))
			checkBoth(t, key{}, nonce{}, make([]byte, beside), make([]byte, length))
			checkBoth(t, key(bytes.Repeat([]byte{0xff}, 32)), nonce(bytes.Repeat([]byte{0xff}, 12)), bytes.Repeat([]byte{0xff}, beside), bytes.Repeat([]byte{0xff}, length))
		}
	}
}

func TestSealAndOpenUnderManyKeys(t *testing.T) {
	for seed := range int64(200) {
		k, n := drawnKey(seed)
		checkBoth(t, k, n, drawn(seed+1, int(seed)%23), drawn(seed+2, int(seed)%41))
	}
}

func TestNilIsNothing(t *testing.T) {
	k, n := drawnKey(6)
	want := sealed(k, n, nil, nil)
	for _, aad := range [][]byte{nil, {}, make([]byte, 0, 30)} {
		for _, text := range [][]byte{nil, {}, make([]byte, 0, 30)} {
			if got, e := siv.Seal(k, n, aad, text); e != api.OK || !bytes.Equal(got, want) {
				t.Errorf("Seal of nothing is %x, %v, want %x", got, e, want)
			}
		}
		if got, e := siv.Open(k, n, aad, want); e != api.OK || len(got) != 0 {
			t.Errorf("Open of nothing sealed is %x, %v", got, e)
		}
	}
}

// checkTag seals and opens a text that was made for this tag; it answers false, if there is none.
func checkTag(t *testing.T, k key, n nonce, aad, first, rest []byte, tag block) bool {
	t.Helper()
	text, ok := textOf(k, n, aad, first, rest, tag)
	if !ok {
		return false
	}
	want := append(streamed(k, n, tag, text), tag[:]...)
	if got, e := siv.Seal(k, n, aad, text); e != api.OK || !bytes.Equal(got, want) {
		t.Errorf("Seal of %d bytes with the tag %x is %x, %v, want %x", len(text), tag, got, e, want)
	}
	if got, e := siv.Open(k, n, aad, want); e != api.OK || !bytes.Equal(got, text) {
		t.Errorf("Open of %d bytes with the tag %x is %x, %v, want %x", len(want), tag, got, e, text)
	}
	return true
}

// checkCounter takes a text of so many blocks and some bytes more, and draws the rest of its tag until there is one.
func checkCounter(t *testing.T, count uint32, blocks, more int, last byte) {
	t.Helper()
	for seed := range int64(100) {
		k, n := drawnKey(seed + int64(count))
		tag := filled(0xff)
		copy(tag[8:], drawn(seed, 7))
		binary.LittleEndian.PutUint32(tag[:], count)
		tag[15] = last
		if checkTag(t, k, n, drawn(seed, 20), drawn(seed+1, 16*(blocks-1)), drawn(seed+2, more), tag) {
			return
		}
	}
	t.Fatalf("no text has a tag that begins with the number %x", count)
}

// The bytes 4 to 7 of these tags are ff: a carry that goes on would change them all.
func TestStreamsThatRunOverTheirNumber(t *testing.T) {
	for _, last := range []byte{0x00, 0x7f, 0x80, 0xff} {
		for ahead := range uint32(6) {
			checkCounter(t, -ahead, 7, 0, last)
			checkCounter(t, 1<<8-ahead, 7, 0, last)
			checkCounter(t, 1<<16-ahead, 7, 0, last)
			checkCounter(t, 1<<24-ahead, 7, 0, last)
			checkCounter(t, 1<<31-ahead, 7, 0, last)
		}
	}
}

func TestLongAndCutStreamsThatRunOverTheirNumber(t *testing.T) {
	checkCounter(t, 1<<32-300, 600, 0, 0x80)
	checkCounter(t, 1<<16-300, 600, 0, 0x00)
	for _, more := range []int{1, 8, 15, 17} {
		checkCounter(t, 1<<32-1, 1, more, 0x7f)
		checkCounter(t, 1<<32-2, 2, more, 0xff)
	}
}

func TestTheMostThatIsSealed(t *testing.T) {
	k, n := drawnKey(8)
	most, more := drawn(9, api.MaxSealed), drawn(9, api.MaxSealed+1)
	if len(most) != 65536 {
		t.Fatalf("MaxSealed is %d", len(most))
	}
	checkBoth(t, k, n, nil, most)
	checkBoth(t, k, n, most, nil)
	checkBoth(t, k, n, most, most)
	checkBoth(t, k, n, drawn(10, 33), most[1:])
	for _, c := range []struct{ aad, text []byte }{{nil, more}, {more, nil}, {more, more}, {most, more}, {more, most}, {drawn(1, 5), make([]byte, 1<<20)}, {make([]byte, 1<<20), drawn(1, 5)}} {
		if got, e := siv.Seal(k, n, c.aad, c.text); e != api.ErrLong || len(got) != 0 {
			t.Errorf("Seal of %d bytes beside %d is %.40x.., %v, want ErrLong", len(c.text), len(c.aad), got, e)
		}
	}
}

func TestTheMostThatIsOpened(t *testing.T) {
	k, n := drawnKey(11)
	most, more := drawn(12, api.MaxSealed), drawn(12, api.MaxSealed+1)
	right := sealed(k, n, nil, most)
	if len(right) != 65552 {
		t.Fatalf("the most that is opened has %d bytes", len(right))
	}
	checkOpen(t, "with a bit turned", k, n, nil, turned(right, 77), api.ErrTag)
	checkOpen(t, "as many beside", k, n, most, right, api.ErrTag)
	checkOpen(t, "one more", k, n, nil, append(right, 0), api.ErrLong)
	checkOpen(t, "right but for what is beside", k, n, more, right, api.ErrLong)
	checkOpen(t, "many more", k, n, nil, make([]byte, 1<<20), api.ErrLong)
	// What one more byte would be sealed as is refused, though its tag holds.
	checkOpen(t, "sealed as the chapter says", k, n, nil, sealed(k, n, nil, more), api.ErrLong)
	checkOpen(t, "sealed beside one more byte", k, n, more, sealed(k, n, more, []byte("text")), api.ErrLong)
}

func TestTooFewBytesAreShort(t *testing.T) {
	k, n := drawnKey(13)
	whole := sealed(k, n, nil, nil)
	for length := range 16 {
		checkOpen(t, "a part of a tag", k, n, nil, whole[:length], api.ErrShort)
		checkOpen(t, "beside the most that may be", k, n, make([]byte, api.MaxSealed), whole[:length], api.ErrShort)
	}
	checkOpen(t, "nil", k, n, nil, nil, api.ErrShort)
	checkOpen(t, "sixteen that are no tag", k, n, nil, make([]byte, 16), api.ErrTag)
	checkBoth(t, k, n, nil, nil)
}

func TestWhichErrorIsFirst(t *testing.T) {
	k, n := drawnKey(14)
	more := make([]byte, api.MaxSealed+1)
	checkOpen(t, "long beside, and short", k, n, more, nil, api.ErrLong)
	checkOpen(t, "long beside, and one short", k, n, more, make([]byte, 15), api.ErrLong)
	checkOpen(t, "long beside, and no tag", k, n, more, make([]byte, 40), api.ErrLong)
	checkOpen(t, "long both", k, n, more, make([]byte, api.MaxSealed+17), api.ErrLong)
	checkOpen(t, "long, and no tag", k, n, nil, make([]byte, api.MaxSealed+17), api.ErrLong)
	checkOpen(t, "short, and no tag", k, n, []byte("beside"), make([]byte, 15), api.ErrShort)
}

func TestEachBitCounts(t *testing.T) {
	for _, length := range few() {
		k, n := drawnKey(int64(length))
		aad, text := drawn(15, length+3), drawn(16, length)
		b, e := siv.Seal(k, n, aad, text)
		if e != api.OK {
			t.Fatal(e)
		}
		for bit := range 8 * len(b) {
			checkOpen(t, "a bit of it turned", k, n, aad, turned(b, bit), api.ErrTag)
		}
		for bit := range 256 {
			checkOpen(t, "under another key", key(turned(k[:], bit)), n, aad, b, api.ErrTag)
		}
		for bit := range 96 {
			checkOpen(t, "under another nonce", k, nonce(turned(n[:], bit)), aad, b, api.ErrTag)
		}
		for bit := range 8 * len(aad) {
			checkOpen(t, "beside others", k, n, turned(aad, bit), b, api.ErrTag)
		}
	}
}

// Noughts fill both up, so that the lengths alone tell where one ends; and none is taken for the other.
func TestWhereBytesEndCounts(t *testing.T) {
	k, n := drawnKey(17)
	for _, length := range few() {
		aad, text := drawn(18, length), drawn(19, length)
		b := sealed(k, n, aad, text)
		checkOpen(t, "beside one nought more", k, n, append(slices.Clone(aad), 0), b, api.ErrTag)
		checkOpen(t, "a nought ahead", k, n, aad, append([]byte{0}, b...), api.ErrTag)
		checkOpen(t, "a nought behind", k, n, aad, append(slices.Clone(b), 0), api.ErrTag)
		if length > 0 {
			checkOpen(t, "beside one less", k, n, aad[:length-1], b, api.ErrTag)
			checkOpen(t, "without the first byte", k, n, aad, b[1:], api.ErrTag)
			checkOpen(t, "without the last byte", k, n, aad, b[:len(b)-1], api.ErrTag)
			checkOpen(t, "beside what is within", k, n, text, b, api.ErrTag)
			checkOpen(t, "beside nothing", k, n, nil, b, api.ErrTag)
		}
	}
	zeros := make([]byte, 17)
	for one := range 18 {
		b := sealed(k, n, zeros[:one], zeros[:17-one])
		for other := range 18 {
			if other != one {
				checkOpen(t, "as many noughts beside and within, cut elsewhere", k, n, zeros[:other], b, api.ErrTag)
			}
		}
	}
}

func TestEqualTextsAreSealedAlikeAndOthersNot(t *testing.T) {
	k, n := drawnKey(21)
	text := drawn(22, 40)
	first, _ := siv.Seal(k, n, nil, text)
	again, _ := siv.Seal(k, n, nil, text)
	if !bytes.Equal(first, again) {
		t.Errorf("one text is sealed as %x and as %x", first, again)
	}
	tags := map[block]int{block(first[40:]): 1}
	for bit := range 8 * len(text) {
		b, _ := siv.Seal(k, n, nil, turned(text, bit))
		tags[block(b[40:])]++
	}
	if len(tags) != 321 {
		t.Errorf("321 texts have %d tags", len(tags))
	}
}

func TestWhatIsHandedInStaysAsItWas(t *testing.T) {
	k, n := drawnKey(23)
	for _, length := range few() {
		room := drawn(24, 200)
		before := slices.Clone(room)
		// What is beside lies just ahead of the text, and both have room behind them.
		first, e := siv.Seal(k, n, room[:20], room[20:20+length])
		if e != api.OK || !bytes.Equal(room, before) {
			t.Errorf("Seal of %d bytes has changed what it was handed, %v", length, e)
		}
		again, _ := siv.Seal(k, n, room[:20], room[20:20+length])
		if !bytes.Equal(first, again) {
			t.Errorf("Seal of %d bytes is another one when it is asked again", length)
		}
		copy(room[100:], first)
		before = slices.Clone(room)
		text, e := siv.Open(k, n, room[:20], room[100:100+len(first)])
		if e != api.OK || !bytes.Equal(room, before) {
			t.Errorf("Open of %d bytes has changed what it was handed, %v", len(first), e)
		}
		if !bytes.Equal(text, room[20:20+length]) {
			t.Errorf("Open of %d bytes is %x", len(first), text)
		}
		room[100+len(first)-1] ^= 1
		before = slices.Clone(room)
		checkOpen(t, "with a bit turned", k, n, room[:20], room[100:100+len(first)], api.ErrTag)
		if !bytes.Equal(room, before) {
			t.Errorf("Open of %d wrong bytes has changed what it was handed", len(first))
		}
	}
}

// spoil writes over a list, and over all the room behind it.
func spoil(b []byte) {
	b = b[:cap(b)]
	for i := range b {
		b[i] ^= 0xff
	}
}

func TestWhatIsAnsweredIsNewMemory(t *testing.T) {
	k, n := drawnKey(25)
	for _, length := range few() {
		aad, text := drawn(26, length), drawn(27, length)
		sameAad, sameText := slices.Clone(aad), slices.Clone(text)
		first, _ := siv.Seal(k, n, aad, text)
		second, _ := siv.Seal(k, n, aad, text)
		third, _ := siv.Open(k, n, aad, second)
		fourth, _ := siv.Open(k, n, aad, second)
		kept := slices.Clone(second)
		spoil(first)
		spoil(third)
		if !bytes.Equal(aad, sameAad) || !bytes.Equal(text, sameText) || !bytes.Equal(second, kept) || !bytes.Equal(fourth, text) {
			t.Errorf("an answer of %d bytes shares memory with an argument, or with another answer", length)
		}
		spoil(aad)
		spoil(text)
		if !bytes.Equal(second, kept) || !bytes.Equal(fourth, sameText) {
			t.Errorf("an answer of %d bytes hangs on what was handed in", length)
		}
		spoil(second)
		if !bytes.Equal(fourth, sameText) {
			t.Errorf("a text of %d bytes shares memory with what it was opened from", length)
		}
	}
}
