"""Tables of whole numbers: what their rows make, without fractions and without rounding."""
