"""A folding rule: rods hinged end to end, each hinge straight or folded back."""
