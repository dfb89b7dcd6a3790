package wind

import "hangfire/api"

const (
	opening  = "WIND\x01" // how each file begins
	zeroPart = 32768      // what is written for a part of a wind that is 0
)

// Write returns the file of a task.
func Write(t api.WnTask) ([]byte, api.Errno) {
	if _, _, e := Check(t); e != api.OK {
		return nil, e
	}
	b := put([]byte(opening), 2, t.Age, t.Shear)
	b = put(b, 1, len(t.Cuts))
	b = put(b, 4, t.Cuts...)
	b = put(b, 1, len(t.Sources))
	for _, s := range t.Sources {
		b = put(b, 1, s.Kind)
		b = put(b, 2, s.Error, s.Late, s.Life)
		b = put(b, 4, s.Low, s.High)
		b = put(b, 1, len(s.Name))
		b = append(b, s.Name...)
	}
	b = put(b, 1, len(t.Soundings))
	for _, s := range t.Soundings {
		b = put(b, 1, s.Source)
		b = put(b, 4, s.Tick, s.Height)
		b = put(b, 2, s.X+zeroPart, s.Y+zeroPart)
	}
	return put(b, 2, sum(b)), api.OK
}

// put adds numbers of so many bytes each to b, with their highest byte first.
func put(b []byte, size int, numbers ...int) []byte {
	for _, n := range numbers {
		for i := size - 1; i >= 0; i-- {
			b = append(b, byte(n>>(8*i)))
		}
	}
	return b
}

// sum returns the sum of bytes, modulo 65536.
func sum(b []byte) int {
	n := 0
	for _, c := range b {
		n += int(c)
	}
	return n % 65536
}

// Read returns the task of a file.
func Read(b []byte) (api.WnTask, api.Errno) {
	if len(b) > api.MaxWnFile {
		return api.WnTask{}, api.ErrLong
	}
	t, ok := parse(b)
	if !ok {
		return api.WnTask{}, api.ErrForm
	}
	if _, _, e := Check(t); e != api.OK {
		return api.WnTask{}, e
	}
	return t, api.OK
}

// parse returns the task whose file b is, unchecked, and whether b has the form of a file.
func parse(b []byte) (t api.WnTask, ok bool) {
	defer func() {
		if recover() != nil {
			t, ok = api.WnTask{}, false
		}
	}()
	next := 0
	number := func(size int) int {
		if len(b)-next < size {
			panic("bytes are missing")
		}
		n := 0
		for range size {
			n = n<<8 | int(b[next])
			next++
		}
		return n
	}
	if text(number, len(opening)) != opening {
		return api.WnTask{}, false
	}
	t = task(number)
	found := sum(b[:next])
	if number(2) != found || next != len(b) {
		return api.WnTask{}, false
	}
	return t, true
}

// text returns so many bytes as a string.
func text(number func(size int) int, length int) string {
	var b []byte
	for range length {
		b = append(b, byte(number(1)))
	}
	return string(b)
}

// task returns what stands in a file between its opening and its sum.
func task(number func(size int) int) api.WnTask {
	var t api.WnTask
	t.Age = number(2)
	t.Shear = number(2)
	for range number(1) {
		t.Cuts = append(t.Cuts, number(4))
	}
	for range number(1) {
		t.Sources = append(t.Sources, source(number))
	}
	for range number(1) {
		t.Soundings = append(t.Soundings, sounding(number))
	}
	return t
}

// source returns the source that is next in a file.
func source(number func(size int) int) api.WnSource {
	var s api.WnSource
	s.Kind = number(1)
	s.Error = number(2)
	s.Late = number(2)
	s.Life = number(2)
	s.Low = number(4)
	s.High = number(4)
	s.Name = text(number, number(1))
	return s
}

// sounding returns the sounding that is next in a file.
func sounding(number func(size int) int) api.WnSounding {
	var s api.WnSounding
	s.Source = number(1)
	s.Tick = number(4)
	s.Height = number(4)
	s.X = number(2) - zeroPart
	s.Y = number(2) - zeroPart
	return s
}
