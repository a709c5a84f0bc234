"""Looks at what a fault tells between steps, and of images that are broken in one place."""

from saggar.running import run_image


def watch(case, fault, image, choices=(), limit=400):
    """Runs an image step by step and looks before and behind each step."""
    case.assertIsNone(fault(image))
    for count in range(limit):
        left = [choices[count % len(choices)]] if choices else []
        if run_image(image, left, 1) != ("weary",):
            break
        case.assertIsNone(fault(image))
    case.assertIsNone(fault(image))


class Breaking:
    """Breaks an image by one word, looks at its fault, and takes the word back.

    A case has the image, and the function that tells the fault.
    """

    def tried(self, why, change, before, others):
        for other in others:
            change(other)
            self.assertEqual(self.fault(self.image), why, other)
        change(before)
        self.assertIsNone(self.fault(self.image))

    def breaks(self, why, word, at, *others):
        """Looks at the fault that some other words in a slot make."""
        self.tried(why, lambda other: self.image.put(word, at, other), self.image.get(word, at), others)

    def breaks_root(self, why, k, *others):
        """Looks at the fault that some other roots make."""
        self.tried(why, lambda other: self.image.space.set_root(k, other), self.image.space.root(k), others)

    def breaks_kind(self, why, word, *others):
        """Looks at the fault that some other classes of an object make."""
        store = self.image.store()
        self.tried(why, lambda other: store.set_kind(word // 2, other), store.kind(word // 2), others)
