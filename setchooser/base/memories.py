"""What is known of sets, told by masks, of which each one that lies in a right one is right as well."""


class Memory:
    """Right masks, and masks that are not right."""

    def __init__(self):
        self.right = []
        self.wrong = []

    def knows(self, mask):
        """Whether the mask is right, as those that were told show, or None if they do not show it."""
        if any([mask & other == mask for other in self.right]):
            return True
        if any([mask & other == other for other in self.wrong]):
            return False
        return None

    def learn(self, mask, is_right):
        """Takes down whether the mask is right."""
        if is_right:
            self.right.append(mask)
        else:
            self.wrong.append(mask)
