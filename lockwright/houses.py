"""Houses: a book that is edited, and the answers that are kept just as long as what they hang on stands."""

from lockwright.books import Entry, with_entry, without
from lockwright.booktexts import entry_lines
from lockwright.errors import NotEntry, NothingDone, NotQuestion
from lockwright.keeping import Kept, answer_found, inquiry_with, lemmas_found, standing_answer, standing_lemmas
from lockwright.lines import place_text, text_of
from lockwright.questions import Question
from lockwright.tasks import task_of


class House:
    """A book that changes, its edits, and what is kept of answers and of what was learnt."""

    def __init__(self, book):
        self.now = book
        # For each edit the book ahead of it, and its lines in the journal.
        self.edits = []
        self.answers = []
        self.learnt = []

    def go_to(self, book):
        """Has another book from now on; only what stands is kept."""
        answers = [standing_answer(kept, self.now, book) for kept in self.answers]
        self.answers = [kept for kept in answers if kept is not None]
        self.learnt = standing_lemmas(self.learnt, book)
        self.now = book

    def edit(self, book, lines):
        """Goes to another book by an edit with these lines."""
        self.edits.append((self.now, lines))
        self.go_to(book)

    def put(self, entry):
        """Puts an entry, in the place of one of the same package and version: NotEntry, TooMany."""
        if not isinstance(entry, Entry):
            raise NotEntry()
        self.edit(with_entry(self.now, entry), ["put", *entry_lines(entry)])

    def strike(self, name, version):
        """Strikes the entry of a package and version: NoEntry."""
        self.edit(without(self.now, name, version), [f"strike {place_text(name, version)}"])

    def undo(self):
        """Takes the last edit back: NothingDone."""
        if not self.edits:
            raise NothingDone()
        book, _ = self.edits.pop()
        self.go_to(book)

    def book(self):
        """The book of now."""
        return self.now

    def ask(self, question):
        """The answer to a question, with a warrant for it or a paper, that is kept: NotQuestion, TooMany."""
        if not isinstance(question, Question):
            raise NotQuestion()
        # What is kept is the answer by the book of now.
        for kept in self.answers:
            if kept.question == question:
                return kept.answer
        task = task_of(self.now, question)
        inquiry = inquiry_with(task, self.learnt)
        answer = answer_found(inquiry)
        self.answers.append(Kept(task, question, answer))
        self.learnt.extend(lemmas_found(self.now, inquiry, self.learnt))
        return answer

    def kept(self):
        """The list of the pairs of a question and its answer that are kept."""
        return [(kept.question, kept.answer) for kept in self.answers]

    def lemmas(self):
        """The pairs of a clause that was learnt, and the steps that lead to it, that are kept."""
        return tuple([(lemma.clause, lemma.steps) for lemma in self.learnt])

    def copy(self):
        """Another house, with all that is kept and can be taken back, that goes on apart."""
        other = House(self.now)
        other.edits = list(self.edits)
        other.answers = list(self.answers)
        other.learnt = list(self.learnt)
        return other

    def journal(self):
        """The text of all edits that are not taken back."""
        lines = []
        for _, told in self.edits:
            lines.extend([*told, "done"])
        return text_of(lines)
