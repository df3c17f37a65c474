package link

import "burrow/api"

// window is what a Window and a Link have in common.
type window struct {
	next  int    // one more than the highest number that was accepted
	below uint64 // bit k tells whether the number k + 1 below the highest one was accepted
}

func (w *window) highest() int {
	return w.next - 1
}

func (w *window) check(number int) error {
	if number < 0 || number >= api.MaxCount {
		return api.ErrUsedUp
	}
	behind := w.highest() - number
	if behind > api.Window {
		return api.ErrOld
	}
	if behind == 0 || behind > 0 && w.below>>(behind-1)&1 == 1 {
		return api.ErrReplay
	}
	return nil
}

func (w *window) mark(number int) error {
	if err := w.check(number); err != nil {
		return err
	}
	ahead := number - w.highest()
	if ahead < 0 {
		w.below |= 1 << (-ahead - 1)
		return nil
	}
	// The highest number so far goes below. If there was none, that is -1, which nobody can ask for.
	w.below = w.below<<ahead | 1<<(ahead-1)
	w.next = number + 1
	return nil
}

// Window is which numbers were accepted. Its zero value has accepted none.
type Window struct {
	window
}

// Check returns why a number can't be accepted, or nil.
func (w *Window) Check(number int) error {
	if w == nil {
		return api.ErrUsedUp
	}
	return w.check(number)
}

// Mark accepts a number.
func (w *Window) Mark(number int) error {
	if w == nil {
		return api.ErrUsedUp
	}
	return w.mark(number)
}

// Highest returns the highest number that was accepted, or -1.
func (w *Window) Highest() int {
	if w == nil {
		return -1
	}
	return w.highest()
}
