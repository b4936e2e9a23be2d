"""What the document says of every function: one list is answered, nothing is changed, kept or printed."""

import contextlib
import io

from deals import LeftAlone


class OneCall:
    """A test class says in calls() what is handed in, in function what is called, in length() how long an answer is."""

    def test_an_answer_is_one_list_of_whole_numbers(self):
        for call in self.calls():
            answer = self.function(*call)
            self.assertIs(type(answer), list)
            self.assertEqual({type(number) for number in answer}, {int})
            self.assertEqual(len(answer), 1 if answer[0] < 0 else self.length(call), call)

    def test_what_is_handed_in_stays_as_it_was(self):
        for call in self.calls():
            handed = [LeftAlone(value) if isinstance(value, list) else value for value in call]
            self.function(*handed)
            self.assertEqual(tuple(handed), tuple(call))

    def test_an_answer_is_a_list_of_its_own(self):
        for call in self.calls():
            answer = self.function(*call)
            for value in call:
                self.assertIsNot(answer, value)

    def test_nothing_is_kept(self):
        calls = list(self.calls())
        first = [self.function(*call) for call in calls]
        self.assertEqual([self.function(*call) for call in calls], first)
        self.assertEqual([self.function(*call) for call in reversed(calls)], first[::-1])

    def test_an_answer_that_is_changed_does_no_harm(self):
        for call in self.calls():
            answer = self.function(*call)
            before = list(answer)
            answer.append(99)
            answer[0] = 77
            self.assertEqual(self.function(*call), before)

    def test_nothing_is_printed(self):
        printed = io.StringIO()
        with contextlib.redirect_stdout(printed), contextlib.redirect_stderr(printed):
            for call in self.calls():
                self.function(*call)
        self.assertEqual(printed.getvalue(), "")
