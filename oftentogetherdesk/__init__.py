"""What's often together: which things are often in one basket."""
