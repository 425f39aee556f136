"""Days that aren't alike: an inspector with few looks, and one who may dare."""
