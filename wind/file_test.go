package wind_test

import (
	"math/rand"
	"slices"
	"testing"

	"hangfire/api"
	"hangfire/wind"
)

// smallFile is the file of the task with Age 30, Shear 20 and the Cut 1000 alone.
func smallFile() []byte {
	return []byte{87, 73, 78, 68, 1, 0, 30, 0, 20, 1, 0, 0, 3, 232, 0, 0, 2, 81}
}

// sealed returns bytes with their sum behind them.
func sealed(b []byte) []byte {
	n := 0
	for _, c := range b {
		n += int(c)
	}
	return append(slices.Clone(b), byte(n/256%256), byte(n%256))
}

// fileOf returns the file of a task whose Cut is 1, with these bytes of Age and Shear, and of sources and soundings (their numbers included).
func fileOf(changes, sources, soundings []byte) []byte {
	b := append([]byte("WIND\x01"), changes...)
	b = append(b, 1, 0, 0, 0, 1)
	b = append(b, sources...)
	return sealed(append(b, soundings...))
}

// P1.8
func TestWrite(t *testing.T) {
	if b, e := wind.Write(api.WnTask{Cuts: []int{1000}, Age: 30, Shear: 20}); e != api.OK || !slices.Equal(b, smallFile()) {
		t.Errorf("Write = %v, %d", b, e)
	}
	want := sealed([]byte{
		'W', 'I', 'N', 'D', 1, 0, 30, 0, 20,
		2, 0, 3, 13, 64, 0, 15, 66, 64,
		3,
		1, 0, 50, 0, 0, 23, 112, 0, 0, 0, 0, 0, 4, 147, 224, 4, 'm', 'a', 's', 't',
		2, 0, 100, 2, 88, 46, 224, 0, 0, 0, 0, 1, 201, 195, 128, 4, 'b', 'l', 'u', 'e',
		3, 0, 80, 0, 100, 11, 184, 0, 0, 195, 80, 0, 30, 132, 128, 4, 'b', 'e', 'a', 'm',
		4,
		0, 0, 0, 3, 232, 0, 1, 134, 160, 129, 194, 128, 0,
		1, 0, 0, 3, 232, 0, 1, 134, 160, 130, 88, 127, 156,
		1, 0, 0, 6, 64, 0, 9, 39, 192, 131, 82, 128, 100,
		2, 0, 0, 7, 208, 0, 4, 147, 224, 130, 248, 128, 0,
	})
	b, e := wind.Write(example())
	if e != api.OK || len(b) != 134 || !slices.Equal(b, want) {
		t.Errorf("Write = %v, %d", b, e)
	}
	if b, e := wind.Write(api.WnTask{}); len(b) != 0 || e != api.ErrLong {
		t.Errorf("Write = %v, %d", b, e)
	}
}

// largest is a task with as much as there can be, each number as large as it can be; the sum of its bytes is above 65535.
func largest() api.WnTask {
	t := api.WnTask{Age: 1000, Shear: 1000}
	for i := range 20 {
		t.Cuts = append(t.Cuts, api.MaxWnHeight-19+i)
	}
	for i := range 6 {
		name := []byte("zzzzzzzzzzzzzzzzzzzzzzzz")
		name[23] = byte('a' + i)
		t.Sources = append(t.Sources, api.WnSource{Name: string(name), Kind: 3, Error: 5000, Late: 6000, Life: 60000, High: api.MaxWnHeight - 1})
	}
	for i := range 60 {
		t.Soundings = append(t.Soundings, api.WnSounding{Source: i % 6, Tick: api.MaxTick - i, Height: api.MaxWnHeight - 1, X: 20000, Y: -20000})
	}
	return t
}

// P1.8, P1.16
func TestLargestFile(t *testing.T) {
	x := largest()
	b, e := wind.Write(x)
	if e != api.OK || len(b) != 5+4+1+20*4+1+6*40+1+60*13+2 || !slices.Equal(b, sealed(b[:len(b)-2])) {
		t.Fatalf("Write = %v, %d", b, e)
	}
	n := 0
	for _, c := range b {
		n += int(c)
	}
	if y, e := wind.Read(b); n < 65536+510 || !same(x, y) || e != api.OK {
		t.Errorf("Read = %v, %d, of %d in all", y, e, n)
	}
}

// P1.8
func TestRead(t *testing.T) {
	same31 := smallFile()
	same31[6], same31[8] = 31, 19
	noCuts := sealed([]byte{87, 73, 78, 68, 1, 0, 30, 0, 20, 0, 0, 0})
	changes, no := []byte{0, 30, 0, 20}, []byte{0}
	source := []byte{1, 1, 0, 0, 0, 0, 0, 1, 0, 0, 0, 0, 0, 0, 0, 9, 1, 'a'}
	soundings := func(x ...byte) []byte { return append([]byte{1, 0, 0, 0, 0, 0, 0, 0, 0, 0}, x...) }
	for i, c := range []struct {
		b []byte
		e api.Errno
	}{
		{smallFile(), api.OK},
		{same31, api.OK},
		// Too long, or not of the form.
		{make([]byte, 2001), api.ErrLong},
		{append(smallFile(), make([]byte, 2000)...), api.ErrLong},
		{make([]byte, 2000), api.ErrForm},
		{nil, api.ErrForm},
		{[]byte{}, api.ErrForm},
		{[]byte("WIND"), api.ErrForm},
		{[]byte("WIND\x01"), api.ErrForm},
		{sealed([]byte("WIND\x01")), api.ErrForm},
		{append(smallFile(), 0), api.ErrForm},
		{sealed(smallFile()[:15]), api.ErrForm},
		{sealed(append(smallFile()[:16], 0)), api.ErrForm},
		{sealed(append([]byte("WIND\x02"), smallFile()[5:16]...)), api.ErrForm},
		{sealed(append([]byte("wIND\x01"), smallFile()[5:16]...)), api.ErrForm},
		// The task is not as stated.
		{noCuts, api.ErrLong},
		{fileOf(changes, no, no), api.OK},
		{fileOf([]byte{3, 232, 3, 232}, no, no), api.OK},
		{fileOf([]byte{3, 233, 0, 0}, no, no), api.ErrRange},
		{fileOf([]byte{0, 0, 255, 255}, no, no), api.ErrRange},
		{fileOf(changes, source, no), api.OK},
		{fileOf(changes, source, soundings(128, 0, 128, 0)), api.OK},
		{fileOf(changes, source, soundings(49, 224, 206, 32)), api.OK},
		{fileOf(changes, source, soundings(49, 223, 128, 0)), api.ErrRange},
		{fileOf(changes, source, soundings(128, 0, 206, 33)), api.ErrRange},
		{fileOf(changes, no, soundings(128, 0, 128, 0)), api.ErrNone},
		{fileOf(changes, append([]byte{7}, make([]byte, 7*16)...), no), api.ErrLong},
		{fileOf(changes, append([]byte{6}, make([]byte, 6*16)...), no), api.ErrForm},
		{fileOf(changes, no, append([]byte{61}, make([]byte, 61*13)...)), api.ErrLong},
		{fileOf(changes, no, append([]byte{60}, make([]byte, 60*13)...)), api.ErrNone},
		{fileOf(changes, []byte{1, 0, 0, 0, 0, 0, 0, 1, 0, 0, 0, 0, 0, 0, 0, 9, 1, 'a'}, no), api.ErrArg},
		{fileOf(changes, []byte{1, 1, 0, 0, 0, 0, 0, 1, 0, 0, 0, 9, 0, 0, 0, 8, 1, 'a'}, no), api.ErrRange},
		{fileOf(changes, []byte{1, 1, 0, 0, 0, 0, 234, 97, 0, 0, 0, 0, 0, 0, 0, 9, 1, 'a'}, no), api.ErrRange},
		{fileOf(changes, []byte{1, 1, 0, 0, 0, 0, 0, 1, 0, 0, 0, 0, 255, 255, 255, 255, 1, 'a'}, no), api.ErrRange},
		{fileOf(changes, []byte{1, 1, 0, 0, 0, 0, 0, 1, 0, 0, 0, 0, 0, 0, 0, 9, 1, 'A'}, no), api.ErrForm},
		{sealed([]byte{87, 73, 78, 68, 1, 0, 30, 0, 20, 2, 0, 0, 3, 232, 0, 0, 3, 232, 0, 0}), api.ErrArg},
	} {
		x, e := wind.Read(c.b)
		if e != c.e || e != api.OK && !same(x, api.WnTask{}) {
			t.Errorf("%d: Read = %v, %d", i, x, e)
		}
	}
	x, e := wind.Read(fileOf(changes, source, soundings(49, 224, 206, 32)))
	want := api.WnTask{
		Sources:   []api.WnSource{{Name: "a", Kind: 1, Life: 1, High: 9}},
		Soundings: []api.WnSounding{{X: -20000, Y: 20000}},
		Cuts:      []int{1}, Age: 30, Shear: 20,
	}
	if !same(x, want) || e != api.OK {
		t.Errorf("Read = %v, %d", x, e)
	}
}

// P1.16
func TestBytes(t *testing.T) {
	r := rand.New(rand.NewSource(116))
	for range 300 {
		x, _ := randomTask(r)
		b, e := wind.Write(x)
		y, f := wind.Read(b)
		if e != api.OK || f != api.OK || !same(x, y) {
			t.Fatalf("Write: %d; Read = %v, %d of %v", e, y, f, x)
		}
		if c, e := wind.Write(y); e != api.OK || !slices.Equal(b, c) {
			t.Fatalf("Write = %v, %d of %v", c, e, y)
		}
	}
}

// P1.8, P1.16: one byte is another one, or the end is missing.
func TestDamage(t *testing.T) {
	r := rand.New(rand.NewSource(117))
	for n := range 30 {
		x := example()
		if n > 0 {
			x, _ = randomTask(r)
		}
		b, _ := wind.Write(x)
		for i := range b {
			c := slices.Clone(b)
			c[i] += byte(1 + r.Intn(255))
			if y, e := wind.Read(c); e != api.ErrForm || !same(y, api.WnTask{}) {
				t.Errorf("byte %d: %d", i, e)
			}
			if y, e := wind.Read(b[:i]); e != api.ErrForm || !same(y, api.WnTask{}) {
				t.Errorf("%d bytes: %d", i, e)
			}
		}
	}
}

// What is read of bytes that are almost a file is written in the same way.
func TestReadWrite(t *testing.T) {
	r := rand.New(rand.NewSource(118))
	read := 0
	for range 3000 {
		x, _ := randomTask(r)
		b, _ := wind.Write(x)
		b = b[:len(b)-2]
		for range 1 + r.Intn(2) {
			b[5+r.Intn(len(b)-5)] = byte(r.Intn(256))
		}
		b = sealed(b)
		y, e := wind.Read(b)
		if e != api.OK {
			continue
		}
		read++
		if c, e := wind.Write(y); e != api.OK || !slices.Equal(b, c) {
			t.Fatalf("Write = %v, %d of %v", c, e, b)
		}
	}
	if read < 100 {
		t.Errorf("%d of 3000 are read", read)
	}
}
